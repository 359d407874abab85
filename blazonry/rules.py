"""The rule of the pieces: light beside dark, and where a saying breaks it."""

from blazonry.drawing import drawings, own_cells
from blazonry.sayings import PIECES, filled, word_sizes
from blazonry.sizes import COLOURS, is_light


def broken(size, words):
    """Tell (place, row, column) of each piece that breaks the rule, rising."""
    full = filled(size, words)
    rows = drawings(size, words)
    told = []
    for place, (top, left) in enumerate(_first_corners(word_sizes(size, words), full)):
        if full[place] not in PIECES:
            continue
        # Behind the piece stands its colour, and behind that the saying for the other cells.
        cell = _first_clash(full[place], full[place + 1], rows[place + 2])
        if cell is not None:
            told.append((place, top + cell[0], left + cell[1]))
    return told


def _first_clash(piece, colour, rows):
    """Tell the first cell of the rows by which the piece breaks the rule, or None."""
    own = own_cells((len(rows[0]), len(rows)), piece)
    for row, cells in enumerate(rows):
        for column, cell in enumerate(cells):
            if is_light(cell) == is_light(colour) and _touches(own, row, column):
                return (row, column)
    return None


def _touches(own, row, column):
    """Tell whether a cell is none of a piece's own ones, and has one of them beside it."""
    beside = ((row - 1, column), (row, column - 1), (row, column + 1), (row + 1, column))
    return (row, column) not in own and any([cell in own for cell in beside])


def _first_corners(sizes, full):
    """Tell of each word of a full saying the upper left cell of its first field.

    All fields of a word are drawn alike, so the cell that comes first by row, then by column,
    lies in the field whose upper left cell comes first.
    """
    told = []
    waiting = [(0, 0)]
    for size, word in zip(sizes, full):
        corner = waiting.pop()
        told.append(corner)
        if word not in COLOURS:
            waiting.append(_second_corner(size, word, corner))
            waiting.append(corner)
    return told


def _second_corner(size, word, corner):
    """Tell the first corner for the second saying behind a word; the first one has the word's own."""
    row, column = corner
    if word in PIECES:
        return corner
    if word == "cut":
        return (row + size[1] // 2, column)
    # Of the two quarters that are told second the upper one comes first.
    return (row, column + size[0] // 2)
