"""All drawings that are said with few words."""

from blazonry.drawing import drawn
from blazonry.errors import BadNumber, BadSize
from blazonry.sayings import next_words
from blazonry.sizes import need_size

GREATEST_SIDE = 4
MOST_WORDS = 3


def few(size, many):
    """Tell all drawings that are said with at most so many words, rising."""
    need_size(size)
    if max(size) > GREATEST_SIDE:
        raise BadSize("each side is 4 at the most here")
    if not 0 <= many <= MOST_WORDS:
        raise BadNumber("the number is from 0 to 3")
    return sorted({drawn(size, words) for words in _sayings(size, many)})


def _sayings(size, many):
    """Tell all sayings with at most so many words."""
    told = [()]
    latest = [()]
    for _ in range(many):
        latest = [words + (word,) for words in latest for word in next_words(size, words)]
        told.extend(latest)
    return told
