"""How cuts come back: behind how many equal signs two texts are cut alike, and what one changed sign can cost."""

from cutsagain.checks import are_signs, check_text
from cutsagain.pairs import both_read, greatest_cost, unlike_moves, unlike_pairs
from cutsagain.rules import cuts
from cutsagain.stands import stand_behind, walk
from cutsagain.tables import table
from cutsagain.walks import dearest


def together(rule, one, other):
    """Whether two texts have the same stand behind them."""
    check_text(one, rule.signs)
    check_text(other, rule.signs)
    return stand_behind(rule, one) == stand_behind(rule, other)


def apart(rule, one, other):
    """How many places there are at which just one of two texts is cut."""
    return len(set(cuts(rule, one)) ^ set(cuts(rule, other)))


def meets(rule):
    """The greatest number of equal signs behind which two texts can have unlike stands, None if it has no end."""
    _, rows = table(rule)
    moves = unlike_moves(rows, unlike_pairs(rows))
    signs = dearest({pair: [(after, 1) for after, _ in steps] for pair, steps in moves.items()})
    if len(signs) < len(moves):
        return None
    return max(list(signs.values()))


def for_ever(rule):
    """Two texts with unlike stands, and signs that bring both back to where they were, or None."""
    texts, rows = table(rule)
    moves = unlike_moves(rows, unlike_pairs(rows))
    ending = dearest(moves)
    lasting = {pair: True for pair in moves if pair not in ending}
    if not lasting:
        return None
    pair, signs = way_round(rows, lasting)
    return texts[pair[0]], texts[pair[1]], signs


def way_round(rows, lasting):
    """One of the pairs that last, and signs that lead from it to itself."""
    pair = list(lasting)[0]
    places = {}
    signs = ()
    while pair not in places:
        places[pair] = len(signs)
        sign, pair = lasting_move(rows, lasting, pair)
        signs = signs + (sign,)
    return pair, signs[places[pair]:]


def lasting_move(rows, lasting, pair):
    """The least sign that leads from a pair that lasts to one that lasts, too, and this pair.

    There is one: walks from the pair can go on for ever, and so does the rest of such a walk.
    """
    moves = [(sign, both_read(rows, pair, sign)[0]) for sign in range(len(rows[pair[0]]))]
    return [(sign, after) for sign, after in moves if after in lasting][0]


def is_for_ever(rule, value):
    """Whether a value of any kind is a tuple (one, other, signs) of two texts that stay apart by the signs."""
    if not isinstance(value, tuple) or len(value) != 3:
        return False
    for part in value:
        if not are_signs(part, rule.signs):
            return False
    one, other, signs = value
    if len(signs) == 0 or stand_behind(rule, one) == stand_behind(rule, other):
        return False
    return is_way_back(rule, one, signs) and is_way_back(rule, other, signs)


def is_way_back(rule, text, signs):
    """Whether the signs lead from the stand behind the text to that stand."""
    stand = stand_behind(rule, text)
    back, _ = walk(rule, stand, signs)
    return back == stand


def differences(rule):
    """The greatest number of cuts that one changed sign can cost, None if it has no end."""
    _, rows = table(rule)
    return greatest_cost(rows, changed_signs(rows))


def changed_signs(rows):
    """The pairs of stands behind two unlike signs that are read from the same stand, each with its greatest cost."""
    firsts = {}
    for row in rows:
        for sign, (other, is_other_cut) in enumerate(row):
            for one, is_cut in row[:sign]:
                cost = int(is_cut != is_other_cut)
                firsts[(one, other)] = max(cost, firsts.get((one, other), 0))
    return firsts
