"""Helps for the tests: pictures in letters, and the document's points 2 to 4 said another way."""

SIDES = (1, 2, 4, 8)
SIZES = tuple((width, height) for width in SIDES for height in SIDES)
COLOURS = ("white", "yellow", "black", "blue", "green", "red")
PIECES = ("pillar", "band", "head", "edge")
WORDS = ("party", "cut", "quartered") + PIECES
LETTERS = {"w": "white", "y": "yellow", "k": "black", "b": "blue", "g": "green", "r": "red"}


def picture(*rows):
    """The drawing whose rows are given as one letter a cell."""
    return tuple(tuple(LETTERS[letter] for letter in row) for row in rows)


def lets(size, word):
    """Point 3's words on where each word may stand."""
    width, height = size
    return {
        "party": width != 1,
        "cut": height != 1,
        "quartered": width != 1 and height != 1,
        "pillar": width in (4, 8),
        "band": height in (4, 8),
        "head": height in (4, 8),
        "edge": width in (4, 8) and height in (4, 8),
    }[word]


def part_size(size, word):
    """The size that the sayings behind a word are for."""
    width, height = size
    return {
        "party": (width // 2, height),
        "cut": (width, height // 2),
        "quartered": (width // 2, height // 2),
    }.get(word, size)


def full_sayings(size, most, colours, found=None):
    """Every full saying of the size with at most so many words, of these colours."""
    found = {} if found is None else found
    if most < 1:
        return []
    if (size, most) not in found:
        told = [(colour,) for colour in colours]
        for word in WORDS:
            if most < 3 or not lets(size, word):
                continue
            part = part_size(size, word)
            if word in PIECES:
                firsts = [(colour,) for colour in colours]
            else:
                firsts = full_sayings(part, most - 2, colours, found)
            for first in firsts:
                for second in full_sayings(part, most - 1 - len(first), colours, found):
                    told.append((word,) + first + second)
        found[size, most] = told
    return found[size, most]


def parted(full):
    """The two sayings behind the first word of a full saying that is no colour."""
    open_ends = 1
    at = 1
    while open_ends:
        open_ends += -1 if full[at] in COLOURS else 1
        at += 1
    return full[1:at], full[at:]


def colour_at(size, full, row, column):
    """The colour of one cell of a full saying, as point 3 tells it."""
    word = full[0]
    if word in COLOURS:
        return word
    width, height = size
    first, second = parted(full)
    if word in PIECES:
        own = {
            "pillar": column in {4: (1, 2), 8: (2, 3, 4, 5)}.get(width, ()),
            "band": row in {4: (1, 2), 8: (2, 3, 4, 5)}.get(height, ()),
            "head": row in {4: (0,), 8: (0, 1)}.get(height, ()),
            "edge": row in (0, height - 1) or column in (0, width - 1),
        }[word]
        return first[0] if own else colour_at(size, second, row, column)
    part = part_size(size, word)
    right, lower = column >= part[0], row >= part[1]
    chosen = second if right != lower else first
    return colour_at(part, chosen, row % part[1], column % part[0])


def drawing_of(size, full):
    """The drawing of a full saying, cell by cell."""
    width, height = size
    return tuple(
        tuple(colour_at(size, full, row, column) for column in range(width))
        for row in range(height)
    )


def from_right(rows):
    """A drawing from right to left."""
    return tuple(row[::-1] for row in rows)
