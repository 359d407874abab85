import unittest

from blazonry.drawing import alike, drawn, mirrored
from blazonry.errors import BadDrawing, BadNumber, BadSaying, BadSize, ShieldError
from blazonry.sayings import filled, trimmed
from blazonry.sizes import is_drawing

NO_SIZE = (3, 4)
NO_SAYING = ("pink",)


class ErrorClassesTest(unittest.TestCase):
    def test_any_refusal_is_a_value_error(self):
        self.assertEqual(ShieldError.__bases__, (ValueError,))

    def test_each_refusal_is_straight_under_shield_error(self):
        for told in (BadSize, BadDrawing, BadNumber, BadSaying):
            with self.subTest(told=told):
                self.assertEqual(told.__bases__, (ShieldError,))

    def test_the_classes_stand_in_errors(self):
        for told in (ShieldError, BadSize, BadDrawing, BadNumber, BadSaying):
            self.assertEqual(told.__module__, "blazonry.errors")

    def test_place_is_set_when_the_error_is_created(self):
        self.assertEqual(BadSaying(7).place, 7)
        self.assertIn("place", vars(BadSaying(0)))


class OrderOfRefusalsTest(unittest.TestCase):
    def test_bad_size_comes_ahead_of_bad_words(self):
        for function in (filled, trimmed, drawn, mirrored):
            for words in (NO_SAYING, (), ("white",), ("white", "white")):
                with self.subTest(function=function.__name__, words=words):
                    self.assertRaises(BadSize, function, NO_SIZE, words)

    def test_bad_size_comes_ahead_of_both_sayings_of_alike(self):
        for one in (NO_SAYING, ("white",)):
            for other in (NO_SAYING, ("white",)):
                with self.subTest(one=one, other=other):
                    self.assertRaises(BadSize, alike, NO_SIZE, one, other)

    def test_bad_size_comes_ahead_of_a_drawing(self):
        for rows in ((), (("pink",),), (("white",) * 3,) * 4):
            with self.subTest(rows=rows):
                self.assertRaises(BadSize, is_drawing, NO_SIZE, rows)

    def test_alike_refuses_its_first_saying_first(self):
        with self.assertRaises(BadSaying) as caught:
            alike((4, 4), ("party", "red", "pink"), ("pink",))
        self.assertEqual(caught.exception.place, 2)
        with self.assertRaises(BadSaying) as caught:
            alike((4, 4), ("pink",), ("party", "red", "pink"))
        self.assertEqual(caught.exception.place, 0)


if __name__ == "__main__":
    unittest.main()
