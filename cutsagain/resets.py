"""Signs behind which all texts are together, and texts that no signs bring together."""

from cutsagain.checks import are_signs, check_text
from cutsagain.pairs import both_read
from cutsagain.search import ways
from cutsagain.tables import number_behind, table


def resets(rule, signs):
    """Whether all texts have the same stand behind these signs, whatever stood ahead."""
    check_text(signs, rule.signs)
    _, rows = table(rule)
    stands = all_stands(rows)
    for sign in signs:
        stands = all_read(rows, stands, sign)
    return len(stands) == 1


def all_stands(rows):
    return tuple(range(len(rows)))


def all_read(rows, stands, sign):
    """The stands behind one sign more of several ones, all as ascending tuples of numbers."""
    return tuple(sorted(set([rows[stand][sign][0] for stand in stands])))


def least_reset(rule):
    """The least of the shortest signs behind which all texts have the same stand, None if there are none."""
    _, rows = table(rule)
    for stands, signs in left_behind(rule, rows).items():
        if len(stands) == 1:
            return signs
    return None


def left_behind(rule, rows):
    """A dict of what all stands become behind the same signs, each with the least of the shortest such signs."""
    return ways(all_stands(rows), rule.signs, lambda stands, sign: all_read(rows, stands, sign))


def never(rule):
    """Two texts that no signs bring together, None if there are none."""
    texts, rows = table(rule)
    # Where the fewest stands are left, no signs bring two of these together: they would leave fewer.
    fewest = min(list(left_behind(rule, rows)), key=len)
    if len(fewest) == 1:
        return None
    return texts[fewest[0]], texts[fewest[1]]


def is_never(rule, value):
    """Whether a value of any kind is a tuple of two texts that no signs bring together."""
    if not isinstance(value, tuple) or len(value) != 2:
        return False
    one, other = value
    if not are_signs(one, rule.signs) or not are_signs(other, rule.signs):
        return False
    _, rows = table(rule)
    pair = (number_behind(rows, one), number_behind(rows, other))
    pairs = ways(pair, rule.signs, lambda both, sign: both_read(rows, both, sign)[0])
    return all([here != there for here, there in pairs])
