"""Rules, and the cuts and pieces of texts by them."""

from cutsagain.checks import check_lengths, check_signs, check_text, check_window, check_words
from cutsagain.stands import START, walk


class Rule:
    """Where texts are cut: behind which words, and how short and how long pieces may be."""

    def __init__(self, signs, window, words, least, most):
        check_signs(signs)
        check_window(window)
        check_words(words, signs, window)
        check_lengths(least, most)
        self._signs = signs
        self._window = window
        self._words = words
        self._least = least
        self._most = most

    @property
    def signs(self):
        return self._signs

    @property
    def window(self):
        return self._window

    @property
    def words(self):
        return self._words

    @property
    def least(self):
        return self._least

    @property
    def most(self):
        return self._most

    def __eq__(self, other):
        return (isinstance(other, Rule) and self._signs == other._signs and self._window == other._window
                and self._words == other._words and self._least == other._least and self._most == other._most)


def cuts(rule, text):
    """The places of all cuts of a text, ascending."""
    check_text(text, rule.signs)
    _, places = walk(rule, START, text)
    return places


def pieces(rule, text):
    """The pieces of a text, what is left behind the last cut included."""
    found = []
    begin = 0
    for place in cuts(rule, text):
        found.append(text[begin:place])
        begin = place
    if begin < len(text):
        found.append(text[begin:])
    return found
