"""Drawings read back: the shortest saying, and the table that shows it."""

from blazonry.errors import BadDrawing
from blazonry.patches import patch_colours, ways
from blazonry.sizes import COLOURS, WHITE, is_drawing


def said(size, rows):
    """Tell the shortest saying that draws a drawing."""
    _need_drawing(size, rows)
    return _shortest(rows, {})[1]


def table(size, rows):
    """Tell (patch, full, last) of the drawing and of all that its ways leave to cover."""
    _need_drawing(size, rows)
    known = {}
    _shortest(rows, known)
    return [(patch, len(full), len(last)) for patch, (full, last) in known.items()]


def _need_drawing(size, rows):
    """Refuse what is no drawing of the size."""
    if not is_drawing(size, rows):
        raise BadDrawing("the rows are no drawing of the size")


def _shortest(patch, known):
    """Tell the shortest full saying that covers a patch, and the shortest of all that do.

    All patches that are met on the way are put among the known ones.
    """
    if patch not in known:
        colours = patch_colours(patch)
        if len(colours) > 1:
            known[patch] = _shortest_way(patch, known)
        else:
            known[patch] = _shortest_plain(colours)
    return known[patch]


def _shortest_plain(colours):
    """Tell both sayings of a patch that asks for one colour at the most."""
    # Where every colour will do, the shortest full saying has the one that comes first as texts do.
    full = tuple(colours) or (min(COLOURS),)
    if colours and colours != [WHITE]:
        return full, full
    return full, ()


def _shortest_way(patch, known):
    """Tell both sayings of a patch that is not plain, by trying all its ways."""
    fulls = []
    lasts = []
    for words, left in ways(patch):
        parts = [_shortest(part, known) for part in left]
        fulls.append(_full_joined(words, parts))
        lasts.append(_last_joined(words, parts))
    return min(fulls, key=_rank), min(lasts, key=_rank)


def _full_joined(words, parts):
    """Tell the full saying that begins with the words, from both sayings of each part."""
    joined = words
    for full, _ in parts:
        joined = joined + full
    return joined


def _last_joined(words, parts):
    """Tell the saying without white words at its end, from both sayings of each part."""
    joined = ()
    for full, last in reversed(parts):
        # White words may be left out of a part only if none is left of those behind it.
        joined = full + joined if joined else last
    return words + joined


def _rank(words):
    """Tell what sayings are ordered by, the shortest one first."""
    return (len(words), words)
