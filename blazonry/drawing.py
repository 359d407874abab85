"""Drawings of sayings, and sayings mirrored."""

from blazonry.sayings import filled, word_sizes
from blazonry.sizes import COLOURS

# The words whose two sayings change places in a mirror.
TURNED = ("party", "quartered")


def drawn(size, words):
    """Tell the drawing of a saying."""
    return drawings(size, words)[0]


def drawings(size, words):
    """Tell of each word of the full saying the drawing of the saying that it begins."""
    full = filled(size, words)
    sizes = word_sizes(size, words)
    told = []
    # From the last word to the first: the two sayings behind a word are drawn
    # ahead of it, the first one last.
    waiting = []
    for field, word in reversed(list(zip(sizes, full))):
        if word in COLOURS:
            rows = _plain(field, word)
        else:
            first = waiting.pop()
            second = waiting.pop()
            rows = _joined(word, first, second)
        waiting.append(rows)
        told.append(rows)
    return told[::-1]


def alike(size, one, other):
    """Tell whether two sayings draw the same."""
    return drawn(size, one) == drawn(size, other)


def mirrored(size, words):
    """Tell the full saying that draws the same from right to left."""
    done = []
    for word in reversed(filled(size, words)):
        if word in COLOURS:
            done.append((word,))
        else:
            first = done.pop()
            second = done.pop()
            if word in TURNED:
                first, second = second, first
            done.append((word,) + first + second)
    return done[0]


def own_cells(size, piece):
    """Tell (row, column) of each of the piece's own cells in a field of the size."""
    width, height = size
    return [
        (row, column)
        for row in range(height)
        for column in range(width)
        if _is_own(size, piece, row, column)
    ]


def overlaid(piece, colour, rows):
    """Tell the rows with the piece's own cells in its colour."""
    size = (len(rows[0]), len(rows))
    painted = []
    for row, cells in enumerate(rows):
        painted.append(tuple([
            colour if _is_own(size, piece, row, column) else cell
            for column, cell in enumerate(cells)
        ]))
    return tuple(painted)


def _is_own(size, piece, row, column):
    """Tell whether a cell of a field of the size is one of the piece's own."""
    width, height = size
    if piece == "pillar":
        return width // 4 <= column < width - width // 4
    if piece == "band":
        return height // 4 <= row < height - height // 4
    if piece == "head":
        return row < height // 4
    return row in (0, height - 1) or column in (0, width - 1)


def _plain(size, colour):
    """Tell the drawing of the size that has one colour."""
    width, height = size
    return ((colour,) * width,) * height


def _joined(word, first, second):
    """Tell what a word draws, from the drawings of the two sayings behind it."""
    if word == "party":
        return _beside(first, second)
    if word == "cut":
        return first + second
    if word == "quartered":
        return _beside(first, second) + _beside(second, first)
    return overlaid(word, first[0][0], second)


def _beside(left, right):
    """Tell the drawing that has one drawing on the left and the other on the right."""
    return tuple([one + other for one, other in zip(left, right)])
