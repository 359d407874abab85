import unittest

from blazonry.errors import BadSaying, BadSize
from blazonry.rules import broken
from blazonry.sayings import trimmed
from shields import COLOURS, PIECES, SIZES, broken_by, full_sayings, lets, numbered_saying

LIGHT = ("white", "yellow")
BIG = (8, 8)


class BrokenTest(unittest.TestCase):
    def check(self, size, told, *words):
        self.assertEqual(broken(size, words), told)

    def test_a_pillar(self):
        self.check(BIG, [(0, 0, 1)], "pillar", "red", "blue")
        self.check((4, 1), [(0, 0, 0)], "pillar", "red", "blue")
        self.check((4, 8), [(0, 0, 0)], "pillar", "yellow", "white")
        self.check(BIG, [], "pillar", "red", "yellow")
        self.check(BIG, [], "pillar", "yellow", "red")
        self.check(BIG, [(0, 0, 6)], "pillar", "red", "party", "white", "blue")
        self.check(BIG, [(0, 4, 1)], "pillar", "red", "cut", "white", "blue")

    def test_a_band(self):
        self.check(BIG, [(0, 1, 0)], "band", "red", "blue")
        self.check((1, 4), [(0, 0, 0)], "band", "red", "blue")
        self.check((8, 4), [(0, 0, 0)], "band", "yellow", "white")
        self.check(BIG, [], "band", "red", "yellow")
        self.check(BIG, [], "band", "yellow", "red")
        self.check(BIG, [(0, 6, 0)], "band", "red", "cut", "white", "blue")
        self.check(BIG, [(0, 1, 4)], "band", "red", "party", "white", "blue")

    def test_a_head(self):
        self.check(BIG, [(0, 2, 0)], "head", "red", "blue")
        self.check((1, 4), [(0, 1, 0)], "head", "red", "blue")
        self.check((8, 4), [(0, 1, 0)], "head", "yellow", "white")
        self.check(BIG, [], "head", "red", "yellow")
        self.check(BIG, [], "head", "yellow", "red")
        self.check(BIG, [(0, 2, 4)], "head", "red", "party", "white", "blue")

    def test_an_edge(self):
        self.check(BIG, [(0, 1, 1)], "edge", "red", "blue")
        self.check((4, 4), [(0, 1, 1)], "edge", "red", "blue")
        self.check((4, 8), [(0, 1, 1)], "edge", "yellow", "white")
        self.check(BIG, [], "edge", "red", "yellow")
        self.check(BIG, [], "edge", "yellow", "red")
        self.check(BIG, [(0, 4, 1)], "edge", "red", "cut", "white", "blue")
        self.check(BIG, [(0, 1, 4)], "edge", "red", "party", "white", "blue")

    def test_every_two_colours(self):
        for piece, row, column in (("pillar", 0, 1), ("band", 1, 0), ("head", 2, 0), ("edge", 1, 1)):
            for colour in COLOURS:
                for behind in COLOURS:
                    same = (colour in LIGHT) == (behind in LIGHT)
                    told = [(0, row, column)] if same else []
                    with self.subTest(piece=piece, colour=colour, behind=behind):
                        self.check(BIG, told, piece, colour, behind)

    def test_the_first_by_row_then_by_column(self):
        self.check(BIG, [(0, 0, 6)], "pillar", "red", "quartered", "white", "blue")
        self.check(BIG, [(0, 0, 1)], "pillar", "red", "quartered", "blue", "white")
        self.check(BIG, [(0, 1, 4)], "band", "red", "quartered", "white", "blue")
        self.check(BIG, [(0, 1, 4)], "edge", "red", "quartered", "white", "blue")

    def test_a_cell_that_touches_no_own_cell_keeps_the_rule(self):
        self.check(BIG, [], "head", "red", "cut", "white", "blue")
        self.check((8, 1), [], "pillar", "red", "party",
                   "party", "party", "blue", "white", "white", "party", "white", "party", "white", "blue")
        self.check((8, 1), [(0, 0, 6)], "pillar", "red", "party", "white", "party", "white", "party", "blue")

    def test_a_piece_above_a_piece(self):
        # What the saying behind draws counts, the piece that is in it, too.
        self.check(BIG, [(0, 0, 1)], "pillar", "red", "band", "white", "blue")
        self.check(BIG, [(0, 2, 1)], "pillar", "white", "band", "yellow", "blue")
        self.check(BIG, [(0, 1, 2)], "edge", "red", "pillar", "blue", "white")
        self.check(BIG, [(0, 0, 1)], "pillar", "red", "head", "blue", "white")
        # What a piece above hides still counts for the one behind it.
        self.check(BIG, [(2, 1, 2)], "head", "white", "band", "red", "pillar", "blue", "white")
        self.check(BIG, [(2, 0, 1)], "head", "white", "pillar", "blue", "red")
        self.check(BIG, [(2, 0, 1)], "edge", "red", "pillar", "white", "yellow")
        # A piece's own cells count where another piece hides all of them, too.
        self.check(BIG, [(2, 0, 1)], "pillar", "red", "pillar", "white", "yellow")

    def test_what_lies_beyond_the_field_does_not_count(self):
        self.check((1, 8), [], "cut", "red", "head", "blue", "white")
        self.check((8, 4), [], "party", "edge", "red", "white", "red")
        self.check(BIG, [], "quartered", "head", "blue", "white", "black")
        self.check(BIG, [], "quartered", "black", "edge", "blue", "white")

    def test_within_party_and_cut(self):
        self.check(BIG, [(2, 2, 4)], "party", "white", "head", "red", "blue")
        self.check(BIG, [(1, 2, 0)], "party", "head", "red", "blue", "white")
        self.check(BIG, [(2, 4, 0)], "cut", "white", "band", "red", "blue")
        self.check(BIG, [(1, 0, 0)], "cut", "band", "red", "blue", "white")
        self.check(BIG, [(4, 4, 4)], "party", "white", "cut", "white", "pillar", "red", "blue")

    def test_within_quartered_a_word_has_two_fields(self):
        self.check(BIG, [(1, 0, 0)], "quartered", "pillar", "red", "blue", "white")
        self.check(BIG, [(2, 0, 4)], "quartered", "white", "pillar", "red", "blue")
        self.check(BIG, [(2, 1, 5)], "quartered", "blue", "edge")
        self.check(BIG, [(4, 2, 4)], "quartered", "white", "cut", "white", "pillar", "red", "blue")
        self.check(BIG, [(3, 0, 4)], "cut", "quartered", "white", "pillar", "red", "blue", "red")
        self.check(BIG, [(4, 4, 4)], "cut", "green", "quartered", "white", "pillar", "red", "blue")
        self.check(BIG, [(2, 1, 4), (4, 0, 4)], "quartered", "red", "head", "blue", "pillar", "red", "red")

    def test_several_words_rising(self):
        self.check(BIG, [(0, 0, 1), (2, 1, 0)], "pillar", "red", "band", "blue", "green")
        self.check(BIG, [(1, 0, 0), (4, 1, 4)],
                   "quartered", "pillar", "red", "blue", "head", "white", "yellow")
        self.check(BIG, [(2, 0, 4), (4, 1, 4)],
                   "quartered", "red", "pillar", "red", "head", "blue", "green")
        self.check(BIG, [(1, 2, 0), (4, 0, 4)],
                   "party", "head", "red", "blue", "pillar", "white", "yellow")
        self.check((4, 4), [(0, 1, 0), (2, 0, 0), (4, 0, 0), (6, 1, 1)],
                   "head", "red", "band", "blue", "pillar", "green", "edge", "black", "red")

    def test_white_words_that_are_left_out(self):
        self.check(BIG, [(0, 0, 1)], "pillar")
        self.check(BIG, [(0, 1, 1)], "edge", "yellow")
        self.check(BIG, [], "edge", "blue")
        self.check(BIG, [(0, 1, 4)], "band", "yellow", "party", "red")

    def test_sayings_that_have_no_piece(self):
        self.check(BIG, [])
        self.check((1, 1), [], "red")
        self.check(BIG, [], "quartered", "party", "red", "blue", "cut", "green")

    def test_a_list_of_tuples_of_numbers(self):
        told = broken(BIG, ("pillar", "red", "band", "blue", "green"))
        self.assertIs(type(told), list)
        self.assertEqual({type(one) for one in told}, {tuple})
        self.assertEqual({type(number) for one in told for number in one}, {int})

    def test_each_short_saying_as_the_document_tells_it(self):
        for size in SIZES:
            for full in full_sayings(size, 5, ("white", "red")):
                told = broken_by(size, full)
                self.assertEqual(broken(size, full), told, full)
                self.assertEqual(broken(size, trimmed(size, full)), told, full)

    def test_long_sayings_as_the_document_tells_it(self):
        for size in ((8, 8), (8, 4), (4, 8), (8, 2), (2, 8)):
            for number in range(200):
                full = numbered_saying(size, number, 25)
                self.assertEqual(broken(size, full), broken_by(size, full), full)

    def test_two_hundred_words_and_somewhat_more(self):
        for many in (99, 200):
            words = ("pillar", "red") * many + ("blue",)
            self.assertEqual(broken((4, 1), words), [(2 * at, 0, 0) for at in range(many)])
            self.assertEqual(broken((4, 1), words[:-1] + ("white",)), [])

    def test_words_that_are_no_saying_are_refused_with_their_place(self):
        for size, words, place in (
            (BIG, ("pink",), 0),
            (BIG, ("pillar", "party"), 1),
            (BIG, ("pillar", "red", "blue", "blue"), 3),
            ((2, 8), ("pillar",), 0),
            ((8, 8), ("party", "red", "cut", "red", "edge", "red", "edge", "Red"), 7),
        ):
            with self.subTest(words=words):
                with self.assertRaises(BadSaying) as caught:
                    broken(size, words)
                self.assertEqual(caught.exception.place, place)

    def test_where_a_piece_may_not_stand_it_is_refused(self):
        for size in SIZES:
            for piece in PIECES:
                if not lets(size, piece):
                    self.assertRaises(BadSaying, broken, size, (piece, "red"))

    def test_a_pair_that_is_no_size_is_refused_first(self):
        for size in ((3, 8), (8, 0), (-8, 8), (16, 16)):
            self.assertRaises(BadSize, broken, size, ("pink",))

    def test_the_arguments_are_called_size_and_words(self):
        self.assertEqual(broken(size=(4, 1), words=("pillar", "red")), [])


if __name__ == "__main__":
    unittest.main()
