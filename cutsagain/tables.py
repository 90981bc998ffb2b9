"""The table of a rule's stands. Stands go by numbers there; 0 is the one behind the empty text."""

from cutsagain.search import ways
from cutsagain.stands import START, step, true_step


def table(rule):
    """Two lists, by the numbers of stands: the least of each one's shortest texts, and its rows.

    A row has, by sign, the tuple of the number of the stand behind this sign and whether there is a cut.
    """
    texts = ways(START, rule.signs, lambda stand, sign: step(rule, stand, sign)[0])
    return list(texts.values()), numbered_rows(rule, list(texts), step)


def true_table(rule):
    """Two lists, by the numbers of stands with true lengths: these lengths, and the rows.

    The rule has no ring: with one, there would be no end of lengths.
    """
    stands = list(ways(START, rule.signs, lambda stand, sign: true_step(rule, stand, sign)[0]))
    return [length for _, length in stands], numbered_rows(rule, stands, true_step)


def numbered_rows(rule, stands, take):
    """The rows of all stands, by a way to take one sign more."""
    numbers = {stand: number for number, stand in enumerate(stands)}
    rows = []
    for stand in stands:
        row = []
        for sign in range(rule.signs):
            after, is_cut = take(rule, stand, sign)
            row.append((numbers[after], is_cut))
        rows.append(row)
    return rows


def number_behind(rows, signs):
    """The number of the stand behind signs of any number."""
    number = 0
    for sign in signs:
        number, _ = rows[number][sign]
    return number
