import unittest

from blazonry.errors import BadSize
from blazonry.sizes import is_drawing, is_light, need_size
from shields import COLOURS, SIZES, picture


class NeedSizeTest(unittest.TestCase):
    def test_the_sixteen_sizes(self):
        self.assertEqual(len(SIZES), 16)
        for size in SIZES:
            with self.subTest(size=size):
                self.assertIsNone(need_size(size))

    def test_every_other_pair_is_refused(self):
        sides = list(range(-9, 20)) + [32, 64, 10 ** 30, 10 ** 5000, -10 ** 5000]
        for width in sides:
            for height in sides:
                if (width, height) not in SIZES:
                    self.assertRaises(BadSize, need_size, (width, height))

    def test_the_argument_is_called_size(self):
        self.assertIsNone(need_size(size=(8, 1)))


class IsLightTest(unittest.TestCase):
    def test_light_colours(self):
        self.assertIs(is_light("white"), True)
        self.assertIs(is_light("yellow"), True)

    def test_dark_colours(self):
        for colour in ("black", "blue", "green", "red"):
            with self.subTest(colour=colour):
                self.assertIs(is_light(colour), False)

    def test_the_argument_is_called_colour(self):
        self.assertIs(is_light(colour="yellow"), True)


class IsDrawingTest(unittest.TestCase):
    def test_drawings_of_every_size_and_of_no_other(self):
        for width, height in SIZES:
            rows = (("red",) * width,) * height
            for size in SIZES:
                with self.subTest(size=size, rows=(width, height)):
                    self.assertIs(is_drawing(size, rows), size == (width, height))

    def test_every_colour_may_stand_in_every_cell(self):
        for colour in COLOURS:
            for row in range(2):
                for column in range(4):
                    rows = self.with_cell(row, column, colour)
                    self.assertIs(is_drawing((4, 2), rows), True)

    def test_no_colour_in_any_cell(self):
        for word in ("", "pink", "White", "RED", "red ", "party", "edge", "w"):
            for row in range(2):
                for column in range(4):
                    with self.subTest(word=word, row=row, column=column):
                        rows = self.with_cell(row, column, word)
                        self.assertIs(is_drawing((4, 2), rows), False)

    def test_a_row_too_many_or_too_few(self):
        row = ("green",) * 4
        self.assertIs(is_drawing((4, 2), (row,) * 3), False)
        self.assertIs(is_drawing((4, 2), (row,)), False)
        self.assertIs(is_drawing((4, 2), ()), False)
        self.assertIs(is_drawing((1, 1), ()), False)

    def test_a_cell_too_many_or_too_few_in_any_row(self):
        for many in (0, 1, 3, 5, 8):
            for at in range(2):
                with self.subTest(many=many, at=at):
                    rows = [("green",) * 4] * 2
                    rows[at] = ("green",) * many
                    self.assertIs(is_drawing((4, 2), tuple(rows)), False)
        self.assertIs(is_drawing((1, 1), ((),)), False)

    def test_a_drawing_turned_on_its_side(self):
        self.assertIs(is_drawing((2, 4), picture("wrgb", "ykwr")), False)
        self.assertIs(is_drawing((4, 2), picture("wrgb", "ykwr")), True)

    def test_a_pair_that_is_no_size_is_refused(self):
        for size in ((3, 3), (0, 1), (1, 0), (16, 1), (-1, 1)):
            with self.subTest(size=size):
                rows = (("red",) * size[0],) * size[1]
                self.assertRaises(BadSize, is_drawing, size, rows)

    def test_the_arguments_are_called_size_and_rows(self):
        self.assertIs(is_drawing(size=(2, 1), rows=picture("wr")), True)

    def with_cell(self, row, column, colour):
        rows = [list(cells) for cells in picture("wrgb", "ykwr")]
        rows[row][column] = colour
        return tuple(tuple(cells) for cells in rows)


if __name__ == "__main__":
    unittest.main()
