"""Point 14."""

import unittest

from blazonry.errors import BadSaying, BadSize
from blazonry.notes import read, written
from shields import SIZES, numbered_saying, sayings

BIG = (8, 8)


class WrittenTest(unittest.TestCase):
    def test_the_words_with_one_blank_between(self):
        for size, words, text in (
            (BIG, (), ""),
            (BIG, ("red",), "red"),
            ((2, 1), ("party", "red", "blue"), "party red blue"),
            (BIG, ("party", "red", "white"), "party red white"),
            (BIG, ("party", "red"), "party red"),
            (BIG, ("edge", "red", "quartered", "cut"), "edge red quartered cut"),
        ):
            with self.subTest(words=words):
                self.assertEqual(written(size, words), text)
        self.assertIs(type(written(BIG, ())), str)

    def test_words_that_are_no_saying_are_refused_with_their_place(self):
        for size, words, place in (
            (BIG, ("pink",), 0),
            (BIG, ("",), 0),
            (BIG, ("red", "red"), 1),
            (BIG, ("party red",), 0),
            (BIG, ("edge", "party"), 1),
            ((1, 1), ("party",), 0),
            (BIG, ("cut", "red", "blue", "white"), 3),
        ):
            with self.subTest(words=words):
                with self.assertRaises(BadSaying) as caught:
                    written(size, words)
                self.assertEqual(caught.exception.place, place)

    def test_a_pair_that_is_no_size_is_refused_first(self):
        self.assertRaises(BadSize, written, (3, 8), ())
        self.assertRaises(BadSize, written, (0, 0), ("pink",))

    def test_the_arguments_are_called_size_and_words(self):
        self.assertEqual(written(size=BIG, words=("red",)), "red")


class ReadTest(unittest.TestCase):
    def test_the_saying_of_a_text(self):
        for size, text, words in (
            (BIG, "", ()),
            (BIG, "red", ("red",)),
            (BIG, "white", ("white",)),
            ((2, 1), "party red blue", ("party", "red", "blue")),
            (BIG, "party red white", ("party", "red", "white")),
            (BIG, "edge red quartered cut", ("edge", "red", "quartered", "cut")),
        ):
            with self.subTest(text=text):
                told = read(size, text)
                self.assertEqual(told, words)
                self.assertIs(type(told), tuple)

    def test_it_leads_back(self):
        for size in SIZES:
            for words in sayings(size, 3, ("white", "red")):
                self.assertEqual(read(size, written(size, words)), words)
            for number in range(20):
                words = numbered_saying(size, number, 60)
                self.assertEqual(read(size, written(size, words)), words)

    def test_a_text_that_is_no_saying_is_refused_with_the_place(self):
        for size, text, place in (
            (BIG, " ", 0),
            (BIG, "  ", 0),
            (BIG, " red", 0),
            (BIG, "red ", 1),
            (BIG, "party ", 1),
            (BIG, "party red ", 2),
            (BIG, "party  red", 1),
            (BIG, "party red  blue", 2),
            (BIG, "party red blue ", 3),
            (BIG, "party red  ", 2),
            (BIG, "pink", 0),
            (BIG, "party pink", 1),
            (BIG, "Red", 0),
            (BIG, "party,red", 0),
            (BIG, "partyred", 0),
            (BIG, "party red blue green", 3),
            (BIG, "edge cut red", 1),
            (BIG, "band red blue pink", 3),
            ((1, 8), "cut red party", 2),
            ((4, 4), "quartered pillar", 1),
            (BIG, "!~", 0),
        ):
            with self.subTest(text=text):
                with self.assertRaises(BadSaying) as caught:
                    read(size, text)
                self.assertEqual(caught.exception.place, place)

    def test_a_pair_that_is_no_size_is_refused_first(self):
        for text in ("", " ", "pink", "red"):
            for size in ((3, 8), (8, 0), (-1, 1)):
                self.assertRaises(BadSize, read, size, text)

    def test_the_arguments_are_called_size_and_text(self):
        self.assertEqual(read(size=BIG, text="red"), ("red",))


if __name__ == "__main__":
    unittest.main()
