import unittest

from blazonry.drawing import alike, drawn, mirrored
from blazonry.errors import BadSize
from blazonry.sayings import filled, trimmed
from blazonry.sizes import is_drawing
from shields import COLOURS, SIZES, drawing_of, from_right, full_sayings, lets, picture

# Full sayings for 8 by 8 cells with words within one another, and their drawings.
NESTED = (
    (("party", "cut", "red", "blue", "quartered", "yellow", "black"), picture(
        "rrrryykk", "rrrryykk", "rrrryykk", "rrrryykk",
        "bbbbkkyy", "bbbbkkyy", "bbbbkkyy", "bbbbkkyy")),
    (("quartered", "quartered", "red", "white", "edge", "blue", "pillar", "green", "yellow"), picture(
        "rrwwbbbb", "rrwwbggb", "wwrrbggb", "wwrrbbbb",
        "bbbbrrww", "bggbrrww", "bggbwwrr", "bbbbwwrr")),
    (("edge", "black", "pillar", "red", "band", "blue", "yellow"), picture(
        "kkkkkkkk", "kyrrrryk", "kbrrrrbk", "kbrrrrbk",
        "kbrrrrbk", "kbrrrrbk", "kyrrrryk", "kkkkkkkk")),
    (("cut", "head", "green", "party", "white", "red", "party", "pillar", "blue", "white", "black"), picture(
        "gggggggg", "wwwwrrrr", "wwwwrrrr", "wwwwrrrr",
        "wbbwkkkk", "wbbwkkkk", "wbbwkkkk", "wbbwkkkk")),
    (("quartered", "quartered", "quartered", "red", "blue", "white", "black"), picture(
        "rbwwkkkk", "brwwkkkk", "wwrbkkkk", "wwbrkkkk",
        "kkkkrbww", "kkkkbrww", "kkkkwwrb", "kkkkwwbr")),
    (("band", "yellow", "head", "red", "edge", "green", "cut", "blue", "black"), picture(
        "rrrrrrrr", "rrrrrrrr", "yyyyyyyy", "yyyyyyyy",
        "yyyyyyyy", "yyyyyyyy", "gkkkkkkg", "gggggggg")),
)


class DrawnTest(unittest.TestCase):
    def check(self, size, words, *rows):
        self.assertEqual(drawn(size, words), picture(*rows))

    def test_a_colour(self):
        for size in SIZES:
            for colour in COLOURS:
                self.assertEqual(drawn(size, (colour,)), ((colour,) * size[0],) * size[1])
        self.check((1, 1), ("red",), "r")

    def test_party(self):
        self.check((2, 1), ("party", "red", "blue"), "rb")
        self.check((2, 2), ("party", "red", "blue"), "rb", "rb")
        self.check((4, 1), ("party", "red", "blue"), "rrbb")
        self.check((8, 8), ("party", "red", "blue"), *["rrrrbbbb"] * 8)

    def test_cut(self):
        self.check((1, 2), ("cut", "red", "blue"), "r", "b")
        self.check((2, 2), ("cut", "red", "blue"), "rr", "bb")
        self.check((1, 4), ("cut", "red", "blue"), "r", "r", "b", "b")
        self.check((8, 8), ("cut", "red", "blue"), *["rrrrrrrr"] * 4 + ["bbbbbbbb"] * 4)

    def test_quartered(self):
        self.check((2, 2), ("quartered", "red", "blue"), "rb", "br")
        self.check((4, 2), ("quartered", "red", "blue"), "rrbb", "bbrr")
        self.check((2, 4), ("quartered", "red", "blue"), "rb", "rb", "br", "br")
        self.check((8, 8), ("quartered", "red", "blue"), *["rrrrbbbb"] * 4 + ["bbbbrrrr"] * 4)

    def test_pillar(self):
        self.check((4, 1), ("pillar", "red", "blue"), "brrb")
        self.check((8, 1), ("pillar", "red", "blue"), "bbrrrrbb")
        self.check((4, 8), ("pillar", "red", "blue"), *["brrb"] * 8)
        self.check((8, 8), ("pillar", "red", "blue"), *["bbrrrrbb"] * 8)

    def test_band(self):
        self.check((1, 4), ("band", "red", "blue"), "b", "r", "r", "b")
        self.check((1, 8), ("band", "red", "blue"), "b", "b", "r", "r", "r", "r", "b", "b")
        self.check((8, 4), ("band", "red", "blue"), "bbbbbbbb", "rrrrrrrr", "rrrrrrrr", "bbbbbbbb")
        self.check((8, 8), ("band", "red", "blue"),
                   *["bbbbbbbb"] * 2 + ["rrrrrrrr"] * 4 + ["bbbbbbbb"] * 2)

    def test_head(self):
        self.check((1, 4), ("head", "red", "blue"), "r", "b", "b", "b")
        self.check((1, 8), ("head", "red", "blue"), "r", "r", "b", "b", "b", "b", "b", "b")
        self.check((8, 4), ("head", "red", "blue"), "rrrrrrrr", *["bbbbbbbb"] * 3)
        self.check((8, 8), ("head", "red", "blue"), *["rrrrrrrr"] * 2 + ["bbbbbbbb"] * 6)

    def test_edge(self):
        self.check((4, 4), ("edge", "red", "blue"), "rrrr", "rbbr", "rbbr", "rrrr")
        self.check((8, 4), ("edge", "red", "blue"), "rrrrrrrr", *["rbbbbbbr"] * 2, "rrrrrrrr")
        self.check((4, 8), ("edge", "red", "blue"), "rrrr", *["rbbr"] * 6, "rrrr")
        self.check((8, 8), ("edge", "red", "blue"), "rrrrrrrr", *["rbbbbbbr"] * 6, "rrrrrrrr")

    def test_a_piece_keeps_what_lies_beside_it(self):
        behind = ("quartered", "red", "blue")
        self.check((4, 4), ("pillar", "white") + behind, "rwwb", "rwwb", "bwwr", "bwwr")
        self.check((4, 4), ("band", "white") + behind, "rrbb", "wwww", "wwww", "bbrr")
        self.check((4, 4), ("head", "white") + behind, "wwww", "rrbb", "bbrr", "bbrr")
        self.check((4, 4), ("edge", "white") + behind, "wwww", "wrbw", "wbrw", "wwww")

    def test_words_within_one_another(self):
        for full, rows in NESTED:
            with self.subTest(full=full):
                self.assertEqual(drawn((8, 8), full), rows)

    def test_white_words_that_are_left_out(self):
        self.check((2, 2), (), "ww", "ww")
        self.check((2, 2), ("quartered",), "ww", "ww")
        self.check((2, 2), ("quartered", "red"), "rw", "wr")
        self.check((4, 2), ("cut", "white", "party", "red"), "wwww", "rrww")
        self.check((4, 4), ("edge",), "wwww", "wwww", "wwww", "wwww")
        self.check((4, 4), ("edge", "red"), "rrrr", "rwwr", "rwwr", "rrrr")
        self.check((4, 4), ("edge", "red", "head"), "rrrr", "rwwr", "rwwr", "rrrr")
        self.check((4, 4), ("party", "cut", "blue"), "bbww", "bbww", "wwww", "wwww")

    def test_each_cell_is_as_the_document_tells_it(self):
        for size in SIZES:
            colours = ("white", "red", "blue") if size[0] * size[1] < 16 else ("red", "blue")
            for full in full_sayings(size, 5, colours):
                self.assertEqual(drawn(size, full), drawing_of(size, full), full)

    def test_what_is_drawn_is_a_drawing(self):
        for size in SIZES:
            for word in ("party", "cut", "quartered", "pillar", "band", "head", "edge"):
                if lets(size, word):
                    self.assertIs(is_drawing(size, drawn(size, (word, "red"))), True)

    def test_two_hundred_words_and_somewhat_more(self):
        for many in (99, 100, 125, 600):
            self.check((4, 1), ("pillar", "red") * many + ("blue",), "brrb")
            self.check((4, 4), ("edge", "red", "pillar", "white") * many + ("blue",),
                       "rrrr", "rwwr", "rwwr", "rrrr")

    def test_the_arguments_are_called_size_and_words(self):
        self.assertEqual(drawn(size=(1, 1), words=()), picture("w"))

    def test_a_pair_that_is_no_size_is_refused(self):
        self.assertRaises(BadSize, drawn, (3, 1), ("red",))


class AlikeTest(unittest.TestCase):
    def test_sayings_told_otherwise_that_draw_the_same(self):
        for size, one, other in (
            ((8, 8), (), ("white",)),
            ((8, 8), ("red",), ("party", "red", "red")),
            ((8, 8), ("red",), ("edge", "red", "red")),
            ((2, 2), ("quartered", "red", "blue"),
             ("cut", "party", "red", "blue", "party", "blue", "red")),
            ((4, 1), ("pillar", "red", "blue"),
             ("party", "party", "blue", "red", "party", "red", "blue")),
            ((8, 8), ("pillar", "red", "band", "blue"), ("pillar", "red", "band", "blue", "white")),
            ((4, 4), ("band", "red", "band", "blue", "green"), ("band", "red", "green")),
            ((4, 4), ("party", "cut", "red", "blue", "cut", "green"),
             ("cut", "party", "red", "green", "party", "blue")),
        ):
            with self.subTest(one=one, other=other):
                self.assertIs(alike(size, one, other), True)
                self.assertIs(alike(size, other, one), True)

    def test_a_saying_is_like_itself(self):
        for full in full_sayings((4, 4), 5, ("white", "red"))[::7]:
            self.assertIs(alike((4, 4), full, trimmed((4, 4), full)), True)

    def test_drawings_that_differ_in_one_cell(self):
        corner = ("quartered", "red", "blue")
        for row in range(2):
            for column in range(2):
                cells = ["red", "blue", "blue", "red"]
                cells[2 * row + column] = "green"
                other = ("cut", "party", cells[0], cells[1], "party", cells[2], cells[3])
                with self.subTest(row=row, column=column):
                    self.assertIs(alike((2, 2), corner, other), False)
                    self.assertIs(alike((2, 2), other, corner), False)

    def test_one_cell_of_many_differs(self):
        one = ("quartered", "quartered", "quartered", "red")
        check = ("quartered", "red", "white")
        most = ("cut", "party", "quartered") + check + ("white", "white", "party", "white")
        most = most + ("cut", "party") + check + ("white", "party", "white")
        for last, same in (
            (check, True),
            (("cut", "party", "red", "white", "party", "white", "red"), True),
            (("cut", "party", "red"), False),
            (("cut", "party", "white", "white", "party", "white", "red"), False),
            (("cut", "party", "red", "white", "party", "white", "blue"), False),
            (("cut", "party", "red", "white", "red"), False),
        ):
            with self.subTest(last=last):
                self.assertIs(alike((8, 8), one, most + last), same)
                self.assertIs(alike((8, 8), most + last, one), same)

    def test_the_same_words_in_other_places_differ(self):
        self.assertIs(alike((2, 2), ("party", "red", "blue"), ("party", "blue", "red")), False)
        self.assertIs(alike((2, 2), ("party", "red", "blue"), ("cut", "red", "blue")), False)

    def test_true_only_of_what_draws_the_same(self):
        sayings = full_sayings((2, 2), 5, ("white", "red"))
        for one in sayings[::3]:
            for other in sayings[::5]:
                same = drawing_of((2, 2), one) == drawing_of((2, 2), other)
                self.assertIs(alike((2, 2), one, other), same)

    def test_the_arguments_are_called_size_one_and_other(self):
        self.assertIs(alike(size=(1, 1), one=("red",), other=()), False)

    def test_a_pair_that_is_no_size_is_refused(self):
        self.assertRaises(BadSize, alike, (4, 0), (), ())


class MirroredTest(unittest.TestCase):
    def test_each_kind(self):
        for words, told in (
            (("red",), ("red",)),
            (("party", "red", "blue"), ("party", "blue", "red")),
            (("cut", "red", "blue"), ("cut", "red", "blue")),
            (("quartered", "red", "blue"), ("quartered", "blue", "red")),
            (("pillar", "red", "blue"), ("pillar", "red", "blue")),
            (("band", "red", "blue"), ("band", "red", "blue")),
            (("head", "red", "blue"), ("head", "red", "blue")),
            (("edge", "red", "blue"), ("edge", "red", "blue")),
        ):
            with self.subTest(words=words):
                self.assertEqual(mirrored((8, 8), words), told)

    def test_each_saying_within_is_mirrored(self):
        turned = ("party", "green", "red")
        within = ("party", "red", "green")
        for word, told in (
            ("party", ("party", "blue") + turned),
            ("quartered", ("quartered", "blue") + turned),
            ("cut", ("cut",) + turned + ("blue",)),
        ):
            self.assertEqual(mirrored((8, 8), (word,) + within + ("blue",)), told)
        for word in ("cut", "pillar", "band", "head", "edge"):
            self.assertEqual(mirrored((8, 8), (word, "blue") + within), (word, "blue") + turned)
        self.assertEqual(mirrored((8, 8), ("party", "blue") + within), ("party",) + turned + ("blue",))
        self.assertEqual(mirrored((8, 8), ("quartered", "blue") + within), ("quartered",) + turned + ("blue",))

    def test_it_is_told_in_full(self):
        self.assertEqual(mirrored((8, 8), ()), ("white",))
        self.assertEqual(mirrored((8, 8), ("party",)), ("party", "white", "white"))
        self.assertEqual(mirrored((8, 8), ("party", "red")), ("party", "white", "red"))
        self.assertEqual(mirrored((8, 8), ("quartered", "red")), ("quartered", "white", "red"))
        self.assertEqual(mirrored((8, 8), ("edge", "red")), ("edge", "red", "white"))
        self.assertEqual(mirrored((8, 8), ("party", "cut", "red")), ("party", "white", "cut", "red", "white"))

    def test_words_within_one_another(self):
        for full, rows in NESTED:
            with self.subTest(full=full):
                told = mirrored((8, 8), full)
                self.assertEqual(drawn((8, 8), told), from_right(rows))
                self.assertEqual(len(told), len(full))
                self.assertEqual(mirrored((8, 8), told), full)

    def test_it_draws_the_same_from_right_to_left_and_twice_leads_back(self):
        for size in SIZES:
            for full in full_sayings(size, 5, ("white", "red")):
                told = mirrored(size, full)
                self.assertEqual(filled(size, told), told)
                self.assertEqual(len(told), len(full))
                self.assertEqual(drawing_of(size, told), from_right(drawing_of(size, full)))
                self.assertEqual(mirrored(size, told), full)
                self.assertEqual(mirrored(size, trimmed(size, full)), told)

    def test_two_hundred_words_and_somewhat_more(self):
        for many in (99, 100, 125, 600):
            words = ("pillar", "red") * many
            self.assertEqual(mirrored((4, 1), words + ("party", "blue")),
                             words + ("party", "white", "blue"))

    def test_the_arguments_are_called_size_and_words(self):
        self.assertEqual(mirrored(size=(1, 1), words=()), ("white",))

    def test_a_pair_that_is_no_size_is_refused(self):
        self.assertRaises(BadSize, mirrored, (16, 8), ("red",))


if __name__ == "__main__":
    unittest.main()
