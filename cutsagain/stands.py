"""Stands: all that a rule still knows of a text, and how it reads further signs from there.

A stand is a tuple (last signs, length of the piece).
"""

START = ((), 0)


def read_sign(rule, stand, sign):
    """The last signs and the length of the piece behind one sign more, and whether there is a cut.

    The length is told as it is, at a cut too, so that pieces can be measured.
    """
    last, length = stand
    last = (last + (sign,))[-rule.window:]
    length = length + 1
    is_cut = length == rule.most or (length >= rule.least and last in rule.words)
    return last, length, is_cut


def step(rule, stand, sign):
    """The stand behind one sign more, and whether there is a cut."""
    last, length, is_cut = read_sign(rule, stand, sign)
    if is_cut:
        length = 0
    elif rule.most is None:
        # Without a most, lengths from least on decide nothing further and count as the same.
        length = min(length, rule.least)
    return (last, length), is_cut


def walk(rule, stand, signs):
    """The stand behind signs that are read from a stand on, and the list of how many were read at each cut."""
    places = []
    for place, sign in enumerate(signs, start=1):
        stand, is_cut = step(rule, stand, sign)
        if is_cut:
            places.append(place)
    return stand, places
