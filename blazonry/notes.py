"""Sayings as texts."""

from blazonry.sayings import need_saying

BLANK = " "


def written(size, words):
    """Tell the text of a saying."""
    need_saying(size, words)
    return BLANK.join(words)


def read(size, text):
    """Tell the saying of a text."""
    # The empty text has no word, although it has one stretch between blanks.
    words = tuple(text.split(BLANK)) if text else ()
    need_saying(size, words)
    return words
