import unittest
from itertools import product

from blazonry.drawing import alike, drawn, mirrored
from blazonry.errors import BadSaying, BadSize
from blazonry.sayings import filled, trimmed
from shields import COLOURS, PIECES, SIZES, WORDS, full_sayings, lets

# What is asked with a size and one saying; alike is asked with the saying first and second.
ASKED = {
    "filled": filled,
    "trimmed": trimmed,
    "drawn": drawn,
    "mirrored": mirrored,
    "alike one": lambda size, words: alike(size, words, ()),
    "alike other": lambda size, words: alike(size, (), words),
}


class SayingsCase(unittest.TestCase):
    def refused(self, size, words, place):
        for name, function in ASKED.items():
            with self.subTest(function=name, size=size, words=words):
                with self.assertRaises(BadSaying) as caught:
                    function(size, words)
                self.assertEqual(caught.exception.place, place)

    def taken(self, size, words):
        for name, function in ASKED.items():
            with self.subTest(function=name, size=size, words=words):
                function(size, words)


class FilledTest(SayingsCase):
    def test_no_words_are_white(self):
        for size in SIZES:
            self.assertEqual(filled(size, ()), ("white",))

    def test_a_colour_is_full(self):
        for size in SIZES:
            for colour in COLOURS:
                self.assertEqual(filled(size, (colour,)), (colour,))

    def test_white_words_that_are_left_out(self):
        for words, full in (
            (("party",), ("party", "white", "white")),
            (("party", "white"), ("party", "white", "white")),
            (("party", "red"), ("party", "red", "white")),
            (("pillar",), ("pillar", "white", "white")),
            (("pillar", "red"), ("pillar", "red", "white")),
            (("edge", "white", "cut"), ("edge", "white", "cut", "white", "white")),
            (("cut", "party", "red"), ("cut", "party", "red", "white", "white")),
            (("cut", "red", "quartered"), ("cut", "red", "quartered", "white", "white")),
            (("quartered", "band", "blue", "party"),
             ("quartered", "band", "blue", "party", "white", "white", "white")),
        ):
            with self.subTest(words=words):
                self.assertEqual(filled((8, 8), words), full)

    def test_a_full_saying_is_told_as_it_is(self):
        for full in full_sayings((4, 2), 5, ("white", "red")):
            self.assertEqual(filled((4, 2), full), full)

    def test_each_beginning_of_a_full_saying(self):
        for full in full_sayings((4, 4), 5, ("white", "red")):
            for many in range(len(full) + 1):
                words = full[:many]
                told = filled((4, 4), words)
                self.assertEqual(told[:many], words)
                self.assertEqual(set(told[many:]) - {"white"}, set())
                self.assertIn(told, full_sayings((4, 4), 5, ("white", "red")))

    def test_two_hundred_words_and_somewhat_more(self):
        for many in (99, 100, 125, 500):
            words = ("pillar", "red") * many
            self.assertEqual(filled((4, 1), words), words + ("white",))
            self.assertEqual(filled((4, 1), words + ("pillar",)), words + ("pillar", "white", "white"))

    def test_the_arguments_are_called_size_and_words(self):
        self.assertEqual(filled(size=(1, 1), words=()), ("white",))


class TrimmedTest(SayingsCase):
    def test_last_white_words_are_left_out(self):
        for words, short in (
            ((), ()),
            (("white",), ()),
            (("party",), ("party",)),
            (("party", "white"), ("party",)),
            (("party", "white", "white"), ("party",)),
            (("party", "red", "white"), ("party", "red")),
            (("pillar", "white", "white"), ("pillar",)),
            (("cut", "white", "party", "red", "white"), ("cut", "white", "party", "red")),
            (("cut", "party", "red", "white", "white"), ("cut", "party", "red")),
        ):
            with self.subTest(words=words):
                self.assertEqual(trimmed((8, 8), words), short)

    def test_none_can_be_left_out(self):
        for words in (
            ("red",),
            ("yellow",),
            ("party", "white", "red"),
            ("pillar", "white", "black"),
            ("quartered", "white", "party", "white", "yellow"),
            ("edge",),
            ("head", "white", "cut"),
        ):
            with self.subTest(words=words):
                self.assertEqual(trimmed((8, 8), words), words)

    def test_no_saying_of_the_same_full_one_has_fewer_words(self):
        for full in full_sayings((2, 4), 5, ("white", "red")):
            short = trimmed((2, 4), full)
            begun = [full[:many] for many in range(len(full) + 1)]
            same = [words for words in begun if filled((2, 4), words) == full]
            self.assertEqual(short, min(same, key=len))
            for words in same:
                self.assertEqual(trimmed((2, 4), words), short)

    def test_the_arguments_are_called_size_and_words(self):
        self.assertEqual(trimmed(size=(1, 1), words=("white",)), ())


class RefusedTest(SayingsCase):
    def test_a_text_that_is_no_word(self):
        for word in ("pink", "", "White", "white ", "PARTY", "fess", "part", "red red", "None"):
            self.refused((8, 8), (word,), 0)
            self.refused((8, 8), ("party", word), 1)
            self.refused((8, 8), ("party", "red", word, "red"), 2)
            self.refused((8, 8), ("pillar", word), 1)
            self.refused((8, 8), ("pillar", "red", word), 2)

    def test_a_word_too_many(self):
        self.refused((1, 1), ("white", "white"), 1)
        self.refused((8, 8), ("red", "party"), 1)
        self.refused((8, 8), ("red", "pink", "pink"), 1)
        self.refused((8, 8), ("party", "white", "white", "white"), 3)
        self.refused((8, 8), ("pillar", "white", "white", "white", "white"), 3)
        self.refused((8, 8), ("cut", "party", "red", "blue", "green", "white"), 5)
        self.refused((8, 8), ("quartered", "edge", "red", "blue", "green", ""), 5)

    def test_a_colour_wanted_and_another_word_there(self):
        for piece in PIECES:
            for word in WORDS:
                self.refused((8, 8), (piece, word), 1)
                self.refused((8, 8), (piece, word, "red"), 1)
                self.refused((8, 8), ("party", "red", "cut", piece, word), 4)

    def test_the_size_does_not_let_the_word(self):
        for size in SIZES:
            for word in WORDS:
                if lets(size, word):
                    self.taken(size, (word,))
                else:
                    self.refused(size, (word,), 0)
                    self.refused(size, (word, "white", "white"), 0)

    def test_the_size_of_a_part_does_not_let_the_word(self):
        self.refused((2, 8), ("party", "red", "party"), 2)
        self.refused((8, 2), ("cut", "cut"), 1)
        self.refused((2, 2), ("quartered", "red", "cut"), 2)
        self.refused((4, 4), ("party", "pillar"), 1)
        self.refused((4, 4), ("cut", "white", "band"), 2)
        self.refused((8, 4), ("quartered", "head"), 1)
        self.refused((4, 8), ("quartered", "red", "edge", "red"), 2)
        self.refused((4, 8), ("cut", "party", "edge"), 2)
        self.taken((4, 4), ("cut", "pillar", "red", "white", "pillar"))
        self.taken((4, 4), ("party", "band", "red", "white", "head"))
        self.taken((8, 8), ("quartered", "edge", "red", "white", "edge"))

    def test_a_piece_leaves_the_size_as_it_is(self):
        self.taken((4, 4), ("edge", "red", "edge", "blue", "quartered", "party"))
        self.refused((2, 4), ("band", "red", "edge"), 2)
        self.refused((4, 2), ("pillar", "red", "quartered", "cut"), 3)

    def test_the_first_word_that_cannot_stand_is_told(self):
        self.refused((8, 8), ("pink", "pink"), 0)
        self.refused((8, 8), ("party", "pink", "pink", "pink", "pink"), 1)
        self.refused((1, 1), ("white", "pink"), 1)
        self.refused((8, 8), ("pillar", "red") * 99 + ("red", "red"), 199)

    def test_whatever_stands_in_any_order(self):
        # The place is the length of the longest beginning of a full saying.
        self.check_all((4, 1), ("white", "red", "party", "pillar", "cut", "pink"), 4)
        self.check_all((1, 2), ("white", "red", "party", "cut", "head", ""), 4)
        self.check_all((2, 2), ("white", "red", "party", "quartered", "edge"), 4)
        self.check_all((4, 4), ("white", "red", "cut", "edge", "quartered"), 3)

    def check_all(self, size, words, most):
        begun = set()
        for full in full_sayings(size, 2 * most + 1, ("white", "red")):
            begun.update(full[:many] for many in range(len(full) + 1))
        for many in range(most + 1):
            for told in product(words, repeat=many):
                place = max(k for k in range(many + 1) if told[:k] in begun)
                for name, function in ASKED.items():
                    try:
                        function(size, told)
                    except BadSaying as refusal:
                        self.assertEqual(refusal.place, place, (name, told))
                        self.assertLess(place, many, (name, told))
                    else:
                        self.assertEqual(place, many, (name, told))


class NoSizeTest(SayingsCase):
    def test_a_pair_that_is_no_size_is_refused(self):
        for size in ((0, 1), (1, 0), (3, 4), (4, 3), (8, 16), (-1, 8), (5, 7)):
            for name, function in ASKED.items():
                with self.subTest(function=name, size=size):
                    self.assertRaises(BadSize, function, size, ())


if __name__ == "__main__":
    unittest.main()
