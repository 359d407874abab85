"""Helps for the tests: pictures in letters, and the document's points 2 to 4, 6 and 11 said another way."""

SIDES = (1, 2, 4, 8)
SIZES = tuple((width, height) for width in SIDES for height in SIDES)
COLOURS = ("white", "yellow", "black", "blue", "green", "red")
PIECES = ("pillar", "band", "head", "edge")
WORDS = ("party", "cut", "quartered") + PIECES
LETTERS = {"w": "white", "y": "yellow", "k": "black", "b": "blue", "g": "green", "r": "red"}

# Sizes, and rows that are no drawing of them.
NO_DRAWINGS = (
    ((2, 1), ()),
    ((2, 1), ((),)),
    ((2, 1), (("red",),)),
    ((2, 1), (("red", "red", "red"),)),
    ((2, 1), (("red", "red"), ("red", "red"))),
    ((2, 2), (("red", "red"), ("red",))),
    ((1, 2), (("red", "red"),)),
    ((2, 1), (("red", "pink"),)),
    ((2, 1), (("red", ""),)),
    ((2, 1), (("red", "Red"),)),
    ((1, 1), (("party",),)),
    ((2, 1), (("red", " red"),)),
)


def picture(*rows):
    """The drawing whose rows are given as one letter a cell."""
    return tuple(tuple(LETTERS[letter] for letter in row) for row in rows)


def lets(size, word):
    """Point 3's words on where each word may stand."""
    width, height = size
    return {
        "party": width != 1,
        "cut": height != 1,
        "quartered": width != 1 and height != 1,
        "pillar": width in (4, 8),
        "band": height in (4, 8),
        "head": height in (4, 8),
        "edge": width in (4, 8) and height in (4, 8),
    }[word]


def part_size(size, word):
    """The size that the sayings behind a word are for."""
    width, height = size
    return {
        "party": (width // 2, height),
        "cut": (width, height // 2),
        "quartered": (width // 2, height // 2),
    }.get(word, size)


def full_sayings(size, most, colours, found=None):
    """Every full saying of the size with at most so many words, of these colours."""
    found = {} if found is None else found
    if most < 1:
        return []
    if (size, most) not in found:
        told = [(colour,) for colour in colours]
        for word in WORDS:
            if most < 3 or not lets(size, word):
                continue
            part = part_size(size, word)
            if word in PIECES:
                firsts = [(colour,) for colour in colours]
            else:
                firsts = full_sayings(part, most - 2, colours, found)
            for first in firsts:
                for second in full_sayings(part, most - 1 - len(first), colours, found):
                    told.append((word,) + first + second)
        found[size, most] = told
    return found[size, most]


def sayings(size, most, colours):
    """Every saying of the size with at most so many words, of these colours."""
    told = [()]
    latest = [((), (size,))]
    for _ in range(most):
        latest = [
            (words + (word,), awaited_behind(awaited[0], word) + awaited[1:])
            for words, awaited in latest if awaited
            for word in beginnings(awaited[0], colours)
        ]
        told += [words for words, _ in latest]
    return told


def numbered_saying(size, number, most):
    """A full saying that hangs on a number, with no more than a colour anywhere behind so many words."""
    words = ()
    awaited = (size,)
    while awaited:
        number = (number * 1103515245 + 12345) % 2 ** 31
        options = COLOURS if len(words) >= most else beginnings(awaited[0], COLOURS)
        words += (options[(number >> 8) % len(options)],)
        awaited = awaited_behind(awaited[0], words[-1]) + awaited[1:]
    return words


def beginnings(field, colours):
    """The words that a saying for a field may begin with; a field of None awaits a piece's colour."""
    return colours + tuple(word for word in WORDS if field and lets(field, word))


def awaited_behind(field, word):
    """The fields of the two sayings behind a word, none behind a colour."""
    if word in COLOURS:
        return ()
    return (None if word in PIECES else part_size(field, word), part_size(field, word))


def parted(full):
    """The two sayings behind the first word of a full saying that is no colour."""
    open_ends = 1
    at = 1
    while open_ends:
        open_ends += -1 if full[at] in COLOURS else 1
        at += 1
    return full[1:at], full[at:]


def colour_at(size, full, row, column):
    """The colour of one cell of a full saying, as point 3 tells it."""
    word = full[0]
    if word in COLOURS:
        return word
    first, second = parted(full)
    if word in PIECES:
        return first[0] if owns(size, word, row, column) else colour_at(size, second, row, column)
    part = part_size(size, word)
    chosen = (first, second)[which_part(part, row, column)]
    return colour_at(part, chosen, row % part[1], column % part[0])


def owns(size, piece, row, column):
    """Whether a cell is one of the piece's own, as point 3 tells it."""
    width, height = size
    return {
        "pillar": column in {4: (1, 2), 8: (2, 3, 4, 5)}.get(width, ()),
        "band": row in {4: (1, 2), 8: (2, 3, 4, 5)}.get(height, ()),
        "head": row in {4: (0,), 8: (0, 1)}.get(height, ()),
        "edge": row in (0, height - 1) or column in (0, width - 1),
    }[piece]


def which_part(part, row, column):
    """Which of the two sayings behind party, cut or quartered draws a cell: 0 or 1."""
    return int((column >= part[0]) != (row >= part[1]))


def drawing_of(size, full):
    """The drawing of a full saying, cell by cell."""
    width, height = size
    return tuple(
        tuple(colour_at(size, full, row, column) for column in range(width))
        for row in range(height)
    )


def from_right(rows):
    """A drawing from right to left."""
    return tuple(row[::-1] for row in rows)


def clashes(size, full, place=0, corners=((0, 0),)):
    """Of each piece that breaks the rule its place and all cells that point 6 tells of."""
    word = full[0]
    if word in COLOURS:
        return {}
    first, second = parted(full)
    next_place = place + 1 + len(first)
    part = part_size(size, word)
    if word in PIECES:
        cells = [
            (top + row, left + column)
            for top, left in corners
            for row, column in clashing_cells(size, word, first[0], second)
        ]
        found = {place: cells} if cells else {}
        found.update(clashes(size, second, next_place, corners))
        return found
    places = ([], [])
    for top, left in corners:
        for row in range(0, size[1], part[1]):
            for column in range(0, size[0], part[0]):
                places[which_part(part, row, column)].append((top + row, left + column))
    found = clashes(part, first, place + 1, places[0])
    found.update(clashes(part, second, next_place, places[1]))
    return found


def clashing_cells(size, piece, colour, behind):
    """The cells of one field by which a piece breaks the rule."""
    light = ("white", "yellow")
    cells = [(row, column) for row in range(size[1]) for column in range(size[0])]
    return [
        (row, column) for row, column in cells
        if not owns(size, piece, row, column)
        and (colour_at(size, behind, row, column) in light) == (colour in light)
        and any(
            abs(row - other[0]) + abs(column - other[1]) == 1 and owns(size, piece, *other)
            for other in cells
        )
    ]


def broken_by(size, full):
    """What point 7 asks of a full saying."""
    return [(place, *min(cells)) for place, cells in sorted(clashes(size, full).items())]


def colours_of(patch):
    """The colours of a patch."""
    return {cell for row in patch for cell in row} - {""}


def size_of(patch):
    """The size that a patch is of."""
    return (len(patch[0]), len(patch))


def patch_ways(patch):
    """Of each word that is a way of a patch, as point 11 tells them, the patches that are left."""
    size = size_of(patch)
    found = {}
    for word in WORDS:
        if not lets(size, word):
            continue
        left = left_of_piece(patch, word) if word in PIECES else left_of_parts(patch, word)
        if left is not None:
            found[word] = left
    return found


def left_of_piece(patch, piece):
    """The one patch that a piece leaves, or None where the piece is no way."""
    size = size_of(patch)
    own = {
        cell for row, cells in enumerate(patch) for column, cell in enumerate(cells)
        if owns(size, piece, row, column)
    }
    if len(own - {""}) != 1:
        return None
    return (tuple(
        tuple("" if owns(size, piece, row, column) else cell for column, cell in enumerate(cells))
        for row, cells in enumerate(patch)
    ),)


def left_of_parts(patch, word):
    """The two patches that party, cut or quartered leave, or None where cells stand against one another."""
    part = part_size(size_of(patch), word)
    asked = ({}, {})
    for row, cells in enumerate(patch):
        for column, cell in enumerate(cells):
            place = (row % part[1], column % part[0])
            asked[which_part(part, row, column)].setdefault(place, set()).add(cell)
    if any(len(met - {""}) > 1 for places in asked for met in places.values()):
        return None
    return tuple(
        tuple(tuple(max(places[row, column]) for column in range(part[0])) for row in range(part[1]))
        for places in asked
    )
