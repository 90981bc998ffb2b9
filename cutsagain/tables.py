"""The table of a rule's stands. Stands go by numbers there; 0 is the one behind the empty text."""

from cutsagain.search import ways
from cutsagain.stands import START, step


def table(rule):
    """Two lists, by the numbers of stands: the least of each one's shortest texts, and its rows.

    A row has, by sign, the tuple of the number of the stand behind this sign and whether there is a cut.
    """
    texts = ways(START, rule.signs, lambda stand, sign: step(rule, stand, sign)[0])
    numbers = {stand: number for number, stand in enumerate(texts)}
    rows = []
    for stand in texts:
        row = []
        for sign in range(rule.signs):
            after, is_cut = step(rule, stand, sign)
            row.append((numbers[after], is_cut))
        rows.append(row)
    return list(texts.values()), rows
