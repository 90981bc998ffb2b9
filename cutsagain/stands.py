"""Stands: all that a rule still knows of a text, and how it reads further signs from there.

A stand is a tuple (last signs, length of the piece).
"""

START = ((), 0)


def true_step(rule, stand, sign):
    """The last signs and the true length behind one sign more, and whether there is a cut."""
    last, length = stand
    last = (last + (sign,))[-rule.window:]
    length = length + 1
    is_cut = length == rule.most or (length >= rule.least and last in rule.words)
    return (last, 0 if is_cut else length), is_cut


def step(rule, stand, sign):
    """The stand behind one sign more, and whether there is a cut."""
    (last, length), is_cut = true_step(rule, stand, sign)
    if rule.most is None:
        # Without a most, lengths from least on decide nothing further and count as the same.
        length = min(length, rule.least)
    return (last, length), is_cut


def step_both(one, other, stands, sign):
    """The stands of two rules behind one sign more, and whether each of them has a cut."""
    here, is_cut = step(one, stands[0], sign)
    there, is_other_cut = step(other, stands[1], sign)
    return (here, there), is_cut, is_other_cut


def walk(rule, stand, signs):
    """The stand behind signs that are read from a stand on, and the list of how many were read at each cut."""
    places = []
    for place, sign in enumerate(signs, start=1):
        stand, is_cut = step(rule, stand, sign)
        if is_cut:
            places.append(place)
    return stand, places


def stand_behind(rule, signs):
    stand, _ = walk(rule, START, signs)
    return stand
