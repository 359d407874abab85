"""Sayings: which words may stand where, told in full and told in the fewest words."""

from blazonry.errors import BadSaying
from blazonry.sizes import COLOURS, WHITE, need_size

PIECES = ("pillar", "band", "head", "edge")

# The least width and height that let a word stand; a colour may stand everywhere.
LEAST = {
    "party": (2, 1),
    "cut": (1, 2),
    "quartered": (2, 2),
    "pillar": (4, 1),
    "band": (1, 4),
    "head": (1, 4),
    "edge": (4, 4),
}

# A piece's colour counts as a saying for a single cell: nothing but a colour is one.
CELL = (1, 1)


def filled(size, words):
    """Tell the full saying of a saying."""
    missing = len(word_sizes(size, words)) - len(words)
    return words + (WHITE,) * missing


def trimmed(size, words):
    """Tell the saying with the fewest words that has the same full saying."""
    full = filled(size, words)
    many = len(full)
    while many > 0 and full[many - 1] == WHITE:
        many -= 1
    return full[:many]


def next_words(size, words):
    """Tell the words that may stand behind those of a saying."""
    sizes = word_sizes(size, words)
    if len(sizes) == len(words):
        return []
    return [word for word in COLOURS + tuple(LEAST) if can_stand(sizes[len(words)], word)]


def need_saying(size, words):
    """Refuse words that are no saying."""
    word_sizes(size, words)


def word_sizes(size, words):
    """Tell of each word of the full saying the size that the saying it begins is for."""
    need_size(size)
    met = []
    awaited = [size]
    for place, word in enumerate(words):
        if not awaited or not can_stand(awaited[0], word):
            raise BadSaying(place)
        met.append(awaited[0])
        awaited = _sizes_behind(awaited[0], word) + awaited[1:]
    # Each saying still awaited is the one word white.
    return met + awaited


def can_stand(size, word):
    """Tell whether a saying for the size may begin with the word."""
    if word in COLOURS:
        return True
    if word not in LEAST:
        return False
    width, height = LEAST[word]
    return size[0] >= width and size[1] >= height


def _sizes_behind(size, word):
    """Tell the sizes of the sayings that follow a word which begins one for the size."""
    width, height = size
    if word in COLOURS:
        return []
    if word in PIECES:
        return [CELL, size]
    if word == "party":
        return [(width // 2, height)] * 2
    if word == "cut":
        return [(width, height // 2)] * 2
    return [(width // 2, height // 2)] * 2
