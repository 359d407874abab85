"""Point 1 over the whole program, and that what the interface lists stands where it lists it."""

import inspect
import unittest
from copy import deepcopy

from blazonry import drawing, errors, few, notes, reading, rules, sayings, sizes
from shields import SIZES, full_sayings, picture

SAYINGS = (
    (), ("party", "red"), ("pillar", "red", "cut"), ("edge", "blue", "quartered", "red"), ("green",),
    ("band", "red", "head", "blue", "pillar", "green", "quartered", "black", "yellow"),
)
REFUSED = (((3, 8), ("red",)), ((8, 8), ("party", "pink")), ((8, 8), ("red", "red")), ((1, 1), ("edge",)))

INTERFACE = (
    (errors, ("ShieldError", "BadSize", "BadDrawing", "BadNumber", "BadSaying")),
    (sizes, ("need_size", "is_light", "is_drawing")),
    (sayings, ("filled", "trimmed")),
    (drawing, ("drawn", "alike", "mirrored")),
    (rules, ("broken",)),
    (reading, ("said", "table")),
    (few, ("few",)),
    (notes, ("written", "read")),
)

PICTURES = (
    ((4, 4), picture("rrrr", "rwbr", "rbwr", "rrrr")),
    ((4, 2), picture("wkkw", "rrgg")),
    ((8, 1), picture("wwwwwwww")),
    ((4, 4), picture("rrrr", "rwbr", "rbwr")),
    ((8, 3), picture("w")),
)


def asked(size, words):
    """What every function that takes a saying tells of it, or how it refuses it."""
    told = []
    for function, handed in (
        (sizes.need_size, (size,)),
        (sizes.is_light, (words[0] if words else "white",)),
        (sayings.filled, (size, words)),
        (sayings.trimmed, (size, words)),
        (drawing.drawn, (size, words)),
        (drawing.alike, (size, words, ("party",))),
        (drawing.mirrored, (size, words)),
        (rules.broken, (size, words)),
        (notes.written, (size, words)),
        (notes.read, (size, " ".join(words))),
    ):
        told.append(answer(function, handed))
    return told


def asked_of_rows(size, rows):
    """What every function that takes a drawing or a number tells, or how it refuses it."""
    told = []
    for function, handed in (
        (sizes.is_drawing, (size, rows)),
        (reading.said, (size, rows)),
        (reading.table, (size, rows)),
        (few.few, (size, len(rows) - 2)),
    ):
        told.append(answer(function, handed))
    return told


def answer(function, handed):
    """What a function tells, a copy of it, and whether it left what it was handed as it was."""
    before = deepcopy(handed)
    try:
        told = function(*handed)
    except errors.BadSaying as refusal:
        told = ["BadSaying", refusal.place]
    except errors.ShieldError as refusal:
        told = [type(refusal).__name__]
    copied = deepcopy(told)
    if isinstance(told, list):
        # Whoever got a list may do with it what he likes.
        told.reverse()
        told.append("changed")
        del told[:2]
    return (copied, handed == before)


class AskedAgainTest(unittest.TestCase):
    def check(self, function, pairs):
        first = [function(*pair) for pair in pairs]
        for told in first:
            self.assertEqual([kept for _, kept in told], [True] * len(told))
        again = [function(*pair) for pair in pairs[::-1]][::-1]
        self.assertEqual(again, first)
        self.assertEqual([function(*pair) for pair in pairs], first)

    def test_sayings(self):
        self.check(asked, [((8, 8), words) for words in SAYINGS] + list(REFUSED))

    def test_drawings(self):
        self.check(asked_of_rows, list(PICTURES))

    def test_one_question_leaves_no_trace_in_the_next(self):
        for size in SIZES:
            for full in full_sayings(size, 3, ("white", "red")):
                rows = drawing.drawn(size, full)
                self.assertEqual(drawing.drawn(tuple(list(size)), tuple(list(full))), rows)
                self.assertEqual(reading.table(size, rows), reading.table(size, deepcopy(rows)))
                self.assertEqual(rules.broken(size, full), rules.broken(size, deepcopy(full)))
        self.assertEqual(drawing.drawn((2, 1), ("party", "red")), picture("rw"))

    def test_a_list_that_was_emptied_is_told_again(self):
        for function, handed in (
            (rules.broken, ((8, 8), ("pillar", "red", "band", "blue", "green"))),
            (reading.table, ((2, 2), picture("rb", "wr"))),
            (few.few, ((2, 2), 2)),
        ):
            told = function(*handed)
            kept = deepcopy(told)
            self.assertIsNot(function(*handed), told)
            told.clear()
            self.assertEqual(function(*handed), kept)
            self.assertGreater(len(kept), 1)


class OverTheWholeTest(unittest.TestCase):
    """What several files promise together."""

    def test_a_shield_goes_round(self):
        for words in SAYINGS:
            rows = drawing.drawn((8, 8), words)
            told = reading.said((8, 8), rows)
            self.assertIs(drawing.alike((8, 8), told, words), True)
            self.assertEqual(told, sayings.trimmed((8, 8), told))
            self.assertEqual(notes.read((8, 8), notes.written((8, 8), told)), told)
            full = sayings.filled((8, 8), words)
            self.assertEqual(rules.broken((8, 8), words), rules.broken((8, 8), full))

    def test_a_bad_size_is_refused_ahead_of_all_else(self):
        for size in ((3, 8), (0, 1), (8, 16), (-1, -1)):
            for function, handed in (
                (sizes.is_drawing, ((),)),
                (sayings.filled, (("pink",),)),
                (sayings.trimmed, (("pink",),)),
                (drawing.drawn, (("pink",),)),
                (drawing.alike, (("pink",), ("pink",))),
                (drawing.mirrored, (("pink",),)),
                (rules.broken, (("pink",),)),
                (reading.said, ((),)),
                (reading.table, ((),)),
                (few.few, (-1,)),
                (notes.written, (("pink",),)),
                (notes.read, ("pink",)),
            ):
                with self.subTest(size=size, function=function):
                    self.assertRaises(errors.BadSize, function, size, *handed)


class KindsTest(unittest.TestCase):
    def test_sayings_and_drawings_are_tuples(self):
        for words in SAYINGS:
            for function in (sayings.filled, sayings.trimmed, drawing.mirrored):
                told = function((8, 8), words)
                self.assertIs(type(told), tuple)
                self.assertEqual({type(word) for word in told} - {str}, set())
            rows = drawing.drawn((8, 8), words)
            self.assertIs(type(rows), tuple)
            self.assertEqual({type(row) for row in rows}, {tuple})
            self.assertEqual({type(cell) for row in rows for cell in row}, {str})

    def test_each_name_is_defined_in_the_file_that_lists_it(self):
        for file, names in INTERFACE:
            for name in names:
                with self.subTest(name=name):
                    listed = getattr(file, name)
                    self.assertEqual(listed.__module__, file.__name__)
                    self.assertTrue(inspect.isfunction(listed) or inspect.isclass(listed))

    def test_the_arguments_are_called_as_listed(self):
        for function, names in (
            (sizes.need_size, "size"), (sizes.is_light, "colour"), (sizes.is_drawing, "size rows"),
            (sayings.filled, "size words"), (sayings.trimmed, "size words"),
            (drawing.drawn, "size words"), (drawing.alike, "size one other"), (drawing.mirrored, "size words"),
            (rules.broken, "size words"), (reading.said, "size rows"), (reading.table, "size rows"),
            (few.few, "size many"), (notes.written, "size words"), (notes.read, "size text"),
        ):
            with self.subTest(function=function):
                self.assertEqual(" ".join(inspect.signature(function).parameters), names)


if __name__ == "__main__":
    unittest.main()
