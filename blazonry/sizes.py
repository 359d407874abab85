"""Sizes, colours, and what a drawing of a size is."""

from blazonry.errors import BadSize

SIDES = (1, 2, 4, 8)
WHITE = "white"
LIGHT = (WHITE, "yellow")
COLOURS = (WHITE, "yellow", "black", "blue", "green", "red")


def need_size(size):
    """Refuse a pair of numbers that is no size."""
    width, height = size
    if width not in SIDES or height not in SIDES:
        # The message leaves the numbers out: Python refuses to write very long ones.
        raise BadSize("each side of a size is 1, 2, 4 or 8")


def is_light(colour):
    """Tell whether a colour is a light one."""
    return colour in LIGHT


def is_drawing(size, rows):
    """Tell whether rows are a drawing of the size."""
    need_size(size)
    width, height = size
    return len(rows) == height and all([_is_row(width, row) for row in rows])


def _is_row(width, row):
    """Tell whether a row has so many cells, each of them a colour."""
    return len(row) == width and all([colour in COLOURS for colour in row])
