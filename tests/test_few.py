"""Point 13."""

import unittest
from itertools import product

from blazonry.drawing import drawn
from blazonry.errors import BadNumber, BadSize
from blazonry.few import few
from blazonry.reading import said
from shields import COLOURS, SIZES, picture, sayings

SMALL = tuple(size for size in SIZES if max(size) <= 4)


class FewTest(unittest.TestCase):
    def test_no_word_tells_white(self):
        for size in SMALL:
            self.assertEqual(few(size, 0), [(("white",) * size[0],) * size[1]])

    def test_one_word_tells_a_colour(self):
        for size in SMALL:
            told = few(size, 1)
            self.assertEqual(told, [((colour,) * size[0],) * size[1] for colour in sorted(COLOURS)])

    def test_two_cells(self):
        self.assertEqual(few((2, 1), 2), [
            picture("kk"), picture("kw"), picture("bb"), picture("bw"), picture("gg"), picture("gw"),
            picture("rr"), picture("rw"), picture("ww"), picture("yw"), picture("yy"),
        ])
        self.assertEqual(len(few((2, 1), 3)), 36)
        self.assertEqual(few((1, 1), 3), few((1, 1), 1))

    def test_each_size_and_number_against_all_sayings(self):
        for size in SMALL:
            for many in range(4):
                found = {drawn(size, words) for words in sayings(size, many, COLOURS)}
                self.assertEqual(few(size, many), sorted(found), (size, many))

    def test_what_is_said_with_at_most_so_many_words(self):
        for size in ((1, 1), (2, 1), (1, 2), (2, 2), (4, 1), (1, 4)):
            width, height = size
            lines = list(product(COLOURS, repeat=width))
            drawings = list(product(lines, repeat=height))
            for many in range(4):
                self.assertEqual(few(size, many), sorted([rows for rows in drawings if len(said(size, rows)) <= many]))

    def test_rising_and_each_once(self):
        for size in SMALL:
            told = few(size, 3)
            self.assertTrue(all(one < other for one, other in zip(told, told[1:])))

    def test_a_list_of_drawings(self):
        for many in range(4):
            told = few((2, 4), many)
            self.assertIs(type(told), list)
            self.assertEqual({(type(rows), type(rows[0]), type(rows[0][0])) for rows in told}, {(tuple, tuple, str)})

    def test_other_sizes_are_refused_ahead_of_numbers(self):
        for size in SIZES + ((3, 3), (0, 0), (-4, 4), (4, 5), (16, 1), (8, 3), (10 ** 5000, 1)):
            if size not in SMALL:
                for many in (0, 3, -1, 4):
                    with self.subTest(size=size, many=many):
                        self.assertRaises(BadSize, few, size, many)

    def test_other_numbers_are_refused(self):
        for size in SMALL:
            for many in (-1, 4, -10 ** 5000, 10 ** 5000):
                self.assertRaises(BadNumber, few, size, many)

    def test_the_arguments_are_called_size_and_many(self):
        self.assertEqual(few(size=(1, 1), many=0), [picture("w")])


if __name__ == "__main__":
    unittest.main()
