"""The words that there are for a number of signs and a window."""

from cutsagain.errors import TooMany

MOST_WORDS = 9


def all_words(signs, window):
    """All words, ascending."""
    words = [()]
    for _ in range(window):
        words = [word + (sign,) for word in words for sign in range(signs)]
    return words


def check_few_words(signs, window):
    if len(all_words(signs, window)) > MOST_WORDS:
        raise TooMany("there are more than 9 words")
