"""Points 11 and 12."""

import unittest

from blazonry.drawing import drawn
from blazonry.errors import BadDrawing, BadSize
from blazonry.reading import said, table
from blazonry.sayings import trimmed
from shields import (
    COLOURS, NO_DRAWINGS, PIECES, SIZES, colours_of, drawing_of, full_sayings, lets, numbered_saying,
    patch_ways, picture, sayings, size_of,
)

BIG = (8, 8)


def numbers_of(told):
    """Of each patch of a table its two numbers."""
    return {patch: (full, last) for patch, full, last in told}


class TableTest(unittest.TestCase):
    def check(self, size, rows):
        """All that points 11 and 12 ask of the table of a drawing."""
        told = table(size, rows)
        numbers = numbers_of(told)
        self.assertEqual(len(numbers), len(told), "a patch is told twice")
        self.assertIn(rows, numbers)
        self.assertEqual(numbers[rows][1], len(said(size, rows)))
        for patch, (full, last) in numbers.items():
            colours = colours_of(patch)
            if len(colours) < 2:
                self.assertEqual((full, last), (1, 0 if colours <= {"white"} else 1), patch)
                continue
            for word, left in patch_ways(patch).items():
                for part in left:
                    self.assertIn(part, numbers, (patch, word))
                self.check_numbers(full, last, word, left, numbers)
        return numbers

    def check_numbers(self, full, last, word, left, numbers):
        """That a patch's numbers are no more than one of its ways lets them be."""
        if word in PIECES:
            self.assertLessEqual(full, 2 + numbers[left[0]][0])
            self.assertLessEqual(last, 2 + numbers[left[0]][1])
            return
        first, second = left
        self.assertLessEqual(full, 1 + numbers[first][0] + numbers[second][0])
        self.assertLessEqual(last, 1 + numbers[first][0] + numbers[second][1])
        if colours_of(second) <= {"white"}:
            self.assertLessEqual(last, 1 + numbers[first][1])

    def test_one_colour(self):
        for size in SIZES:
            for colour in COLOURS:
                rows = ((colour,) * size[0],) * size[1]
                told = self.check(size, rows)
                self.assertEqual(told[rows], (1, 0 if colour == "white" else 1))

    def test_two_cells(self):
        red, blue, white = picture("r"), picture("b"), picture("w")
        self.assertEqual(self.check((2, 1), picture("rb")), {picture("rb"): (3, 3), red: (1, 1), blue: (1, 1)})
        self.assertEqual(self.check((2, 1), picture("rw")), {picture("rw"): (3, 2), red: (1, 1), white: (1, 0)})
        self.assertEqual(self.check((1, 2), picture("w", "r")), {picture("w", "r"): (3, 3), red: (1, 1), white: (1, 0)})

    def test_the_second_may_be_white(self):
        # Both of what is left is counted once in full, once as far as it may not be left out.
        rows = picture("rwww")
        numbers = self.check((4, 1), rows)
        self.assertEqual(numbers[rows], (5, 3))
        self.assertEqual(numbers[picture("rw")], (3, 2))
        rows = picture("wwrw")
        numbers = self.check((4, 1), rows)
        self.assertEqual(numbers[rows], (5, 4))

    def test_what_a_piece_leaves(self):
        for piece, rows in (
            ("pillar", (("blue", "", "", "blue"),) * 4),
            ("band", (("blue",) * 4, ("",) * 4, ("",) * 4, ("blue",) * 4)),
            ("head", (("",) * 4, ("blue",) * 4, ("blue",) * 4, ("blue",) * 4)),
            ("edge", (("",) * 4, ("", "blue", "blue", ""), ("", "blue", "blue", ""), ("",) * 4)),
        ):
            with self.subTest(piece=piece):
                drawing = drawn((4, 4), (piece, "red", "blue"))
                numbers = self.check((4, 4), drawing)
                self.assertEqual(numbers[drawing], (3, 3))
                self.assertEqual(numbers[rows], (1, 1))

    def test_the_white_that_a_piece_leaves(self):
        rows = picture("wrrw")
        numbers = self.check((4, 1), rows)
        self.assertEqual(numbers[rows], (3, 2))
        self.assertEqual(numbers[(("white", "", "", "white"),)], (1, 0))

    def test_the_pieces_where_the_size_lets_them(self):
        for size in SIZES:
            for piece in PIECES:
                if not lets(size, piece):
                    continue
                for behind in (("blue",), ("party", "white", "red"), ("cut", "green")):
                    if len(behind) == 1 or lets(size, behind[0]):
                        rows = drawn(size, (piece, "black") + behind)
                        self.assertIn(piece, patch_ways(rows))
                        self.check(size, rows)

    def test_quarters_that_can_be_laid_over_one_another(self):
        rows = picture("rb", "br")
        self.assertEqual(self.check((2, 2), rows)[rows], (3, 3))
        # What the edge hides may have any colour; two corners of each quarter are hidden across, too.
        rows = drawn(BIG, ("edge", "red", "quartered", "blue", "green"))
        numbers = self.check(BIG, rows)
        self.assertEqual(numbers[rows], (5, 5))
        for first, free in (("blue", ((0, 3), (3, 0))), ("green", ((0, 0), (3, 3)))):
            patch = tuple(tuple("" if (row, column) in free else first for column in range(4)) for row in range(4))
            self.assertEqual(numbers[patch], (1, 1))

    def test_quarters_that_can_not_be_laid_over_one_another(self):
        for rows, told in (
            (picture("rb", "bg"), (7, 7)),
            (picture("rb", "gr"), (7, 7)),
            (picture("rw", "ww"), (5, 3)),
            (picture("rw", "bw"), (5, 4)),
        ):
            with self.subTest(rows=rows):
                self.assertNotIn("quartered", patch_ways(rows))
                self.assertEqual(self.check((2, 2), rows)[rows], told)

    def test_small_drawings(self):
        for size in SIZES:
            if max(size) <= 4:
                for rows in sorted({drawn(size, words) for words in sayings(size, 4, ("white", "red", "blue"))}):
                    self.check(size, rows)

    def test_great_drawings(self):
        for size in SIZES:
            if max(size) == 8:
                for number in range(4):
                    self.check(size, drawn(size, numbered_saying(size, number, 9 + 8 * number)))

    def test_a_great_drawing_with_one_cell_unlike_the_others(self):
        for row, column in ((0, 0), (1, 1), (3, 5), (6, 6), (7, 2)):
            cells = [["red"] * 8 for _ in range(8)]
            cells[row][column] = "blue"
            self.check(BIG, tuple(tuple(line) for line in cells))

    def test_a_great_drawing_of_no_short_saying(self):
        rows = picture(*["".join("wykbgr"[(row * row * 3 + column * column + row) % 6] for column in range(8))
                         for row in range(8)])
        self.check(BIG, rows)

    def test_no_saying_that_covers_a_patch_is_shorter_than_told(self):
        for size, rows in (
            ((4, 4), picture("rrrr", "rwbr", "rbwr", "rrrr")),
            ((4, 4), picture("rrww", "rbbw", "wbbr", "wwrr")),
            ((2, 4), picture("rw", "bb", "bb", "wr")),
            ((4, 2), picture("wrrb", "brrw")),
        ):
            numbers = numbers_of(table(size, rows))
            for part in {size_of(patch) for patch in numbers}:
                for words in full_sayings(part, 5, ("white", "red", "blue")):
                    self.check_covered(numbers, part, words)

    def check_covered(self, numbers, size, words):
        """That a saying has no fewer words than the numbers of what it covers."""
        cells = drawing_of(size, words)
        for patch, (full, last) in numbers.items():
            if size_of(patch) == size and covers(cells, patch):
                self.assertLessEqual(full, len(words))
                self.assertLessEqual(last, len(trimmed(size, words)))

    def test_a_list_of_tuples(self):
        told = table((4, 4), picture("rrrr", "rwbr", "rbwr", "rrrr"))
        self.assertIs(type(told), list)
        for line in told:
            self.assertIs(type(line), tuple)
            patch, full, last = line
            self.assertEqual((type(patch), type(full), type(last)), (tuple, int, int))
            self.assertEqual({type(row) for row in patch}, {tuple})
            self.assertLessEqual({cell for row in patch for cell in row}, {"", "red", "white", "blue"})
            self.assertIn(size_of(patch), SIZES)

    def test_what_is_no_drawing_is_refused(self):
        for size, rows in NO_DRAWINGS:
            with self.subTest(rows=rows):
                self.assertRaises(BadDrawing, table, size, rows)

    def test_a_pair_that_is_no_size_is_refused_first(self):
        for size, rows in (((3, 1), picture("rrr")), ((0, 0), ()), ((-1, 1), (("pink",),))):
            self.assertRaises(BadSize, table, size, rows)

    def test_the_arguments_are_called_size_and_rows(self):
        self.assertEqual(table(size=(1, 1), rows=picture("w")), [(picture("w"), 1, 0)])


def covers(cells, patch):
    """Whether a drawing shows what a patch asks for."""
    return all(
        asked in ("", cell)
        for row, others in zip(cells, patch)
        for cell, asked in zip(row, others)
    )


if __name__ == "__main__":
    unittest.main()
