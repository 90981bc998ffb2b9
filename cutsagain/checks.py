"""Checks of values of any kind. Those called check_.. raise the error that the value calls for."""

from cutsagain.errors import BadLengths, BadNumber, BadSigns, BadText, BadWindow, BadWords, Unlike

LONGEST_TEXT = 400


def is_number(value, low, high):
    """Whether a value of any kind is an integer from low to high."""
    # Python counts True and False among the integers, the package does not.
    if isinstance(value, bool) or not isinstance(value, int):
        return False
    return low <= value <= high


def are_signs(value, signs):
    """Whether a value of any kind is a tuple of signs, of any length."""
    if not isinstance(value, tuple):
        return False
    for sign in value:
        if not is_number(sign, 0, signs - 1):
            return False
    return True


def is_text(value, signs):
    """Whether a value of any kind is a text."""
    return are_signs(value, signs) and len(value) <= LONGEST_TEXT


def check_signs(signs):
    if not is_number(signs, 2, 3):
        raise BadSigns("the number of signs is 2 or 3")


def check_window(window):
    if not is_number(window, 1, 3):
        raise BadWindow("the window is an integer from 1 to 3")


def check_words(words, signs, window):
    """Check words for a number of signs and a window that are right already."""
    if not isinstance(words, tuple):
        raise BadWords(None)
    for index, word in enumerate(words):
        if not are_signs(word, signs) or len(word) != window:
            raise BadWords(index)
        if index > 0 and word <= words[index - 1]:
            raise BadWords(index)


def check_lengths(least, most):
    if not is_number(least, 1, 6):
        raise BadLengths("least is an integer from 1 to 6")
    if most is not None and not is_number(most, least, 8):
        raise BadLengths("most is an integer from least to 8, or None")


def check_text(value, signs):
    if not is_text(value, signs):
        raise BadText("a text is a tuple of at most 400 signs")


def check_number(value, low, high):
    if not is_number(value, low, high):
        raise BadNumber("a number is an integer from its least to its greatest value")


def check_like(one, other):
    """Check that two rules have the same number of signs."""
    if one.signs != other.signs:
        raise Unlike("the rules have unlike numbers of signs")
