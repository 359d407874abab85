"""Points 8 and 9."""

import unittest

from blazonry.drawing import alike, drawn
from blazonry.errors import BadDrawing, BadSize
from blazonry.reading import said
from blazonry.sayings import trimmed
from shields import COLOURS, NO_DRAWINGS, SIZES, full_sayings, numbered_saying, picture, sayings

SMALL = tuple(size for size in SIZES if max(size) <= 4)


def best_sayings(size, most, colours):
    """Of each drawing that so many words can draw the shortest saying, found by trying all."""
    best = {}
    for words in sayings(size, most, colours):
        rows = drawn(size, words)
        if rows not in best or (len(words), words) < (len(best[rows]), best[rows]):
            best[rows] = words
    return best


class SaidTest(unittest.TestCase):
    def check(self, words, *rows):
        drawing = picture(*rows)
        size = (len(drawing[0]), len(drawing))
        self.assertEqual(said(size, drawing), words)
        self.assertEqual(drawn(size, words), drawing)

    def test_one_colour(self):
        for size in SIZES:
            for colour in COLOURS:
                told = () if colour == "white" else (colour,)
                self.assertEqual(said(size, ((colour,) * size[0],) * size[1]), told)

    def test_each_word(self):
        self.check(("party", "red", "blue"), "rb")
        self.check(("cut", "red", "blue"), "r", "b")
        self.check(("quartered", "red", "blue"), "rb", "br")
        self.check(("quartered", "blue"), *["bbbbwwww"] * 4, *["wwwwbbbb"] * 4)
        self.check(("pillar", "red", "blue"), *["bbrrrrbb"] * 8)
        self.check(("pillar", "red"), "wrrw")
        self.check(("band", "red", "blue"), "b", "r", "r", "b")
        self.check(("band", "white", "blue"), *["bbbbbbbb"] * 2, *["wwwwwwww"] * 4, *["bbbbbbbb"] * 2)
        self.check(("head", "red", "blue"), "rrrr", "bbbb", "bbbb", "bbbb")
        self.check(("head", "yellow"), *["yyyyyyyy"] * 2, *["wwwwwwww"] * 6)
        self.check(("edge", "red", "blue"), "rrrr", "rbbr", "rbbr", "rrrr")
        self.check(("edge", "white", "green"), "wwwwwwww", *["wggggggw"] * 2, "wwwwwwww")

    def test_white_at_the_end_is_left_out(self):
        self.check(("party", "red"), "rw")
        self.check(("party", "white", "red"), "wr")
        self.check(("cut", "red"), "r", "w")
        self.check(("party", "party", "red"), "rwww")
        self.check(("party", "white", "party", "red"), "wwrw")
        self.check(("cut", "party", "red"), *["rrww"] * 2, *["wwww"] * 2)
        self.check(("party", "red", "cut", "blue"), *["rrbb"] * 2, *["rrww"] * 2)
        self.check(("quartered", "party", "red"), "rwww", "rwww", "wwrw", "wwrw")

    def test_of_as_many_words_the_one_that_comes_ahead(self):
        self.check(("band", "blue", "cut", "red", "green"), "r", "b", "b", "g")
        self.check(("band", "blue", "cut", "red", "party", "green"), "rr", "bb", "bb", "gw")
        self.check(("cut", "party", "red", "blue", "blue"), "rb", "bb")
        self.check(("cut", "party", "red"), "rw", "ww")
        self.check(("cut", "party", "red", "blue", "party", "green", "black"), "rb", "gk")
        self.check(("cut", "party", "party", "red"), "rwww", "wwww")
        self.check(("cut", "party", "red", "white", "party", "white", "green"), "rw", "wg")
        self.check(("party", "band", "blue", "cut", "red", "green", "green"),
                   "rg", "bg", "bg", "gg")

    def test_words_within_one_another(self):
        self.check(("edge", "black", "band", "blue", "pillar", "red", "yellow"),
                   "kkkkkkkk", "kyrrrryk", "kbbbbbbk", "kbbbbbbk",
                   "kbbbbbbk", "kbbbbbbk", "kyrrrryk", "kkkkkkkk")
        self.check(("quartered", "quartered", "quartered", "red", "blue", "white", "black"),
                   "rbwwkkkk", "brwwkkkk", "wwrbkkkk", "wwbrkkkk",
                   "kkkkrbww", "kkkkbrww", "kkkkwwrb", "kkkkwwbr")
        # What the edge hides is free, so that quarters which stand across may be laid over one another.
        self.check(("edge", "red", "quartered", "blue", "green"),
                   "rrrrrrrr", "rbbbgggr", "rbbbgggr", "rbbbgggr",
                   "rgggbbbr", "rgggbbbr", "rgggbbbr", "rrrrrrrr")
        self.check(("edge", "red", "quartered", "cut", "blue", "black", "green"),
                   "rrrrrrrr", "rbbbgggr", "rkkkgggr", "rkkkgggr",
                   "rgggbbbr", "rgggbbbr", "rgggkkkr", "rrrrrrrr")

    def test_what_a_piece_hides_has_the_colour_that_comes_first(self):
        # The only saying left of what is hidden is a colour, and any one draws the same.
        for size, ahead, behind in (
            ((4, 8), ("band", "white", "cut", "cut", "quartered", "party", "blue", "red", "green"), ("blue",)),
            ((8, 4), ("pillar", "white", "cut", "red", "party", "party", "quartered", "white", "blue"), ("green",)),
        ):
            drawings = {drawn(size, ahead + (colour,) + behind) for colour in COLOURS}
            self.assertEqual(len(drawings), 1)
            self.assertEqual(said(size, drawings.pop()), ahead + ("black",) + behind)

    def test_what_a_piece_hides_is_white_where_it_may_be_left_out(self):
        for size, words in (
            ((4, 8), ("band", "blue", "cut", "cut", "quartered", "white", "red")),
            ((8, 4), ("pillar", "blue", "cut", "green", "party", "party", "quartered", "blue", "red")),
        ):
            drawings = {drawn(size, words + (colour,)) for colour in COLOURS}
            self.assertEqual(len(drawings), 1)
            self.assertEqual(said(size, drawings.pop()), words)

    def test_small_drawings_against_all_sayings_of_few_words(self):
        for size in SMALL:
            for most, colours in ((4, ("white", "black", "red")), (5, ("white", "red"))):
                for rows, words in best_sayings(size, most, colours).items():
                    self.assertEqual(said(size, rows), words, (size, rows))

    def test_all_drawings_of_four_cells(self):
        # Seven words tell whatever four cells may show.
        for size in ((4, 1), (1, 4), (2, 2)):
            best = best_sayings(size, 7, ("white", "yellow", "red"))
            self.assertEqual(len(best), 81)
            for rows, words in best.items():
                self.assertEqual(said(size, rows), words)

    def test_great_drawings_against_all_sayings_of_three_words(self):
        for size in SIZES:
            if max(size) == 8:
                for rows, words in best_sayings(size, 3, ("white", "red")).items():
                    self.assertEqual(said(size, rows), words, (size, rows))

    def test_drawings_of_long_sayings(self):
        for size in SIZES:
            for number in range(30):
                full = numbered_saying(size, number, 20)
                rows = drawn(size, full)
                told = said(size, rows)
                self.assertEqual(drawn(size, told), rows)
                self.assertLessEqual((len(told), told), (len(trimmed(size, full)), trimmed(size, full)))
                self.assertNotEqual(told[-1:], ("white",))

    def test_drawings_of_no_short_saying(self):
        letters = "wykbgr"
        for size in SIZES:
            rows = picture(*[
                "".join(letters[(3 * row * row + column * column + row * column) % 6] for column in range(size[0]))
                for row in range(size[1])
            ])
            told = said(size, rows)
            self.assertEqual(drawn(size, told), rows)
            if size == (8, 8):
                self.assertGreater(len(told), 20)

    def test_of_sayings_that_are_alike_the_same_is_said(self):
        for size in ((2, 2), (1, 4), (4, 2)):
            tried = full_sayings(size, 5, ("white", "red"))[::3]
            for one in tried[::2]:
                for other in tried[::5]:
                    same = said(size, drawn(size, one)) == said(size, drawn(size, other))
                    self.assertIs(alike(size, one, other), same)

    def test_a_tuple_of_texts(self):
        for rows in (picture("ww"), picture("rw"), picture("rb")):
            told = said((2, 1), rows)
            self.assertIs(type(told), tuple)
            self.assertEqual({type(word) for word in told} - {str}, set())

    def test_what_is_no_drawing_is_refused(self):
        for size, rows in NO_DRAWINGS:
            with self.subTest(rows=rows):
                self.assertRaises(BadDrawing, said, size, rows)

    def test_a_pair_that_is_no_size_is_refused_first(self):
        for size, rows in (((3, 1), picture("rrr")), ((0, 0), ()), ((-1, 1), (("pink",),))):
            self.assertRaises(BadSize, said, size, rows)

    def test_the_arguments_are_called_size_and_rows(self):
        self.assertEqual(said(size=(2, 1), rows=picture("rw")), ("party", "red"))


if __name__ == "__main__":
    unittest.main()
