"""How long pieces can grow, and rings of signs by which they grow for ever."""

from cutsagain.checks import are_signs
from cutsagain.search import ways
from cutsagain.stands import START, step, true_step, walk


def longest(rule):
    """The greatest length of a piece that ends with a cut, and the first text that ends with such a piece."""
    if ring(rule) is not None:
        return None
    ends = first_ends(rule)
    length = max(list(ends))
    return length, ends[length]


def first_ends(rule):
    """For each length of pieces that end with a cut, the least of the shortest texts that end with such a cut.

    The rule has no ring: with one, lengths would have no end and neither would the search.
    """
    texts = ways(START, rule.signs, lambda stand, sign: true_step(rule, stand, sign)[0])
    ends = {}
    for stand, text in texts.items():
        for sign in range(rule.signs):
            _, is_cut = true_step(rule, stand, sign)
            if is_cut:
                ends.setdefault(stand[1] + 1, text + (sign,))
    return ends


def ring(rule):
    """A text and signs that are read behind it without a cut and lead back to the same stand, or None."""
    if rule.most is not None:
        return None
    texts = ways(START, rule.signs, lambda stand, sign: step(rule, stand, sign)[0])
    for stand, text in texts.items():
        # A shorter piece grows with each sign, so that its stand does not come back without a cut.
        if stand[1] == rule.least:
            signs = way_back(rule, stand)
            if signs is not None:
                return text, signs
    return None


def way_back(rule, stand):
    """Signs that lead from a stand to itself without a cut, None if there are none."""
    uncut = ways(stand, rule.signs, lambda at, sign: step_uncut(rule, at, sign))
    for at, signs in uncut.items():
        for sign in range(rule.signs):
            if step_uncut(rule, at, sign) == stand:
                return signs + (sign,)
    return None


def step_uncut(rule, stand, sign):
    """The stand behind one sign more, None if there is a cut."""
    after, is_cut = step(rule, stand, sign)
    return None if is_cut else after


def is_ring(rule, value):
    """Whether a value of any kind is an endless tuple (text, signs) of the rule."""
    if not isinstance(value, tuple) or len(value) != 2:
        return False
    text, signs = value
    if not are_signs(text, rule.signs) or not are_signs(signs, rule.signs) or len(signs) == 0:
        return False
    stand, _ = walk(rule, START, text)
    back, places = walk(rule, stand, signs)
    return len(places) == 0 and back == stand
