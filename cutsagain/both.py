"""Common cuts of two rules."""

from cutsagain.checks import check_like
from cutsagain.search import ways
from cutsagain.stands import START, step_both
from cutsagain.walks import dearest, leading

# Where walks end: the next common cut.
COMMON = "common"


def first_common(one, other):
    """The least of the shortest texts that end with a common cut, None if there is none."""
    check_like(one, other)
    for stands, text in stands_of_both(one, other).items():
        for sign in range(one.signs):
            if step_common(one, other, stands, sign)[1]:
                return text + (sign,)
    return None


def stands_of_both(one, other):
    """A dict of the stands that both rules can have behind a text, each with the least of its shortest texts."""
    return ways((START, START), one.signs, lambda stands, sign: step_common(one, other, stands, sign)[0])


def step_common(one, other, stands, sign):
    """The stands of both rules behind one sign more, and whether there is a common cut."""
    after, is_cut, is_other_cut = step_both(one, other, stands, sign)
    return after, is_cut and is_other_cut


def longest_common(one, other):
    """The greatest number of signs to the next common cut, and the first text that ends with such a one.

    None if the number has no end, or there is no common cut.
    """
    check_like(one, other)
    moves = moves_to_common(one, other)
    if len(moves) == 1 or len(dearest(moves)) < len(moves):
        return None
    ends = first_ends(one, other, moves)
    many = max(list(ends))
    return many, ends[many]


def moves_to_common(one, other):
    """The moves, of one sign each, of all stands of both rules behind which a common cut can still come.

    They lead to such stands again, or to COMMON, which is among the states.
    """
    moves = {stands: [(after_sign(one, other, stands, sign), 1) for sign in range(one.signs)]
             for stands in stands_of_both(one, other)}
    moves[COMMON] = []
    coming = leading(moves, COMMON)
    return {state: [(after, cost) for after, cost in moves[state] if after in coming] for state in coming}


def after_sign(one, other, stands, sign):
    after, is_common = step_common(one, other, stands, sign)
    return COMMON if is_common else after


def first_ends(one, other, moves):
    """For each number of signs to a common cut, the least of the shortest texts that end with such a one.

    No walk by the moves goes on for ever: otherwise numbers would have no end and neither would the search.
    """
    texts = ways((START, START, 0), one.signs, lambda state, sign: step_counted(one, other, moves, state, sign))
    ends = {}
    for (here, there, many), text in texts.items():
        for sign in range(one.signs):
            if step_common(one, other, (here, there), sign)[1]:
                ends.setdefault(many + 1, text + (sign,))
    return ends


def step_counted(one, other, moves, state, sign):
    """The stands behind one sign more, and the signs since the last common cut; None where none comes again."""
    here, there, many = state
    after, is_common = step_common(one, other, (here, there), sign)
    if after not in moves:
        return None
    return after[0], after[1], (0 if is_common else many + 1)
