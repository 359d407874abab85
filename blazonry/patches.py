"""Patches, drawings in which cells may have any colour, and the ways to cover them."""

from blazonry.drawing import overlaid, own_cells
from blazonry.sayings import LEAST, can_stand

# A cell that may have any colour.
ANY = ""


def patch_colours(patch):
    """Tell the colours that a patch asks for."""
    return sorted({cell for row in patch for cell in row if cell != ANY})


def ways(patch):
    """Tell the ways to begin a full saying that covers a patch which is not plain.

    Each is a pair: the words that it begins with, and the patches that the one or two
    sayings behind them are left to cover.
    """
    size = (len(patch[0]), len(patch))
    told = []
    for word in LEAST:
        if can_stand(size, word):
            told.extend(_ways_of(word, patch))
    return told


def _ways_of(word, patch):
    """Tell the ways that begin with a word: one, or none where it can't cover the patch."""
    if word == "party":
        return [((word,), _sides(patch))]
    if word == "cut":
        return [((word,), _storeys(patch))]
    if word == "quartered":
        return _quartered(patch)
    return _ways_of_piece(word, patch)


def _quartered(patch):
    """Tell the way that begins with quartered, where the quarters let it."""
    upper, lower = _storeys(patch)
    upper_left, upper_right = _sides(upper)
    lower_left, lower_right = _sides(lower)
    first = _laid(upper_left, lower_right)
    second = _laid(upper_right, lower_left)
    if first is None or second is None:
        return []
    return [(("quartered",), (first, second))]


def _ways_of_piece(piece, patch):
    """Tell the way that begins with a piece, where its own cells ask for one colour."""
    size = (len(patch[0]), len(patch))
    own = [patch[row][column] for row, column in own_cells(size, piece)]
    colours = patch_colours((own,))
    if len(colours) != 1:
        return []
    return [((piece, colours[0]), (overlaid(piece, ANY, patch),))]


def _sides(patch):
    """Tell the left and the right half."""
    half = len(patch[0]) // 2
    return tuple([row[:half] for row in patch]), tuple([row[half:] for row in patch])


def _storeys(patch):
    """Tell the upper and the lower half."""
    half = len(patch) // 2
    return patch[:half], patch[half:]


def _laid(one, other):
    """Tell two patches laid over one another, or None where they ask for two colours."""
    laid = []
    for cells, others in zip(one, other):
        pairs = list(zip(cells, others))
        if any([ANY not in pair and pair[0] != pair[1] for pair in pairs]):
            return None
        laid.append(tuple([cell or under for cell, under in pairs]))
    return tuple(laid)
