"""Point 1, and that what the interface lists stands where it lists it."""

import unittest
from copy import deepcopy

from blazonry import drawing, errors, sayings, sizes
from shields import SIZES, full_sayings, picture

SAYINGS = ((), ("party", "red"), ("pillar", "red", "cut"), ("edge", "blue", "quartered", "red"), ("green",))
REFUSED = (((3, 8), ("red",)), ((8, 8), ("party", "pink")), ((8, 8), ("red", "red")), ((1, 1), ("edge",)))


def asked(size, words):
    """What every function tells of a saying, or how it refuses it."""
    told = []
    for function, handed in (
        (sizes.need_size, (size,)),
        (sizes.is_drawing, (size, (words,) * size[1])),
        (sizes.is_light, (words[0] if words else "white",)),
        (sayings.filled, (size, words)),
        (sayings.trimmed, (size, words)),
        (drawing.drawn, (size, words)),
        (drawing.alike, (size, words, ("party",))),
        (drawing.mirrored, (size, words)),
    ):
        before = deepcopy(handed)
        try:
            told.append(function(*handed))
        except errors.BadSaying as refusal:
            told.append(("BadSaying", refusal.place))
        except errors.BadSize:
            told.append("BadSize")
        told.append(handed == before)
    return told


class AskedAgainTest(unittest.TestCase):
    def test_nothing_is_changed_and_the_same_is_told_again(self):
        pairs = [((8, 8), words) for words in SAYINGS] + list(REFUSED)
        first = [asked(size, words) for size, words in pairs]
        for told in first:
            self.assertEqual(told[1::2], [True] * 8)
        again = [asked(size, words) for size, words in pairs[::-1]][::-1]
        self.assertEqual(again, first)
        self.assertEqual([asked(size, words) for size, words in pairs], first)

    def test_one_question_leaves_no_trace_in_the_next(self):
        for size in SIZES:
            for full in full_sayings(size, 3, ("white", "red")):
                self.assertEqual(drawing.drawn(size, full), drawing.drawn(tuple(list(size)), tuple(list(full))))
        self.assertEqual(drawing.drawn((2, 1), ("party", "red")), picture("rw"))


class KindsTest(unittest.TestCase):
    def test_sayings_and_drawings_are_tuples(self):
        for words in SAYINGS:
            for function in (sayings.filled, sayings.trimmed, drawing.mirrored):
                told = function((8, 8), words)
                self.assertIs(type(told), tuple)
                self.assertEqual({type(word) for word in told} - {str}, set())
            rows = drawing.drawn((8, 8), words)
            self.assertIs(type(rows), tuple)
            self.assertEqual({type(row) for row in rows}, {tuple})
            self.assertEqual({type(cell) for row in rows for cell in row}, {str})

    def test_each_name_is_defined_in_the_file_that_lists_it(self):
        for file, names in (
            (errors, ("ShieldError", "BadSize", "BadDrawing", "BadNumber", "BadSaying")),
            (sizes, ("need_size", "is_light", "is_drawing")),
            (sayings, ("filled", "trimmed")),
            (drawing, ("drawn", "alike", "mirrored")),
        ):
            for name in names:
                with self.subTest(name=name):
                    self.assertEqual(getattr(file, name).__module__, file.__name__)


if __name__ == "__main__":
    unittest.main()
