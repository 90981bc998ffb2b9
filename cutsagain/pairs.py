"""Pairs of stands that read the same signs. A pair is a tuple of two numbers of stands of a rule's table."""

from cutsagain.walks import dearest


def both_read(rows, pair, sign):
    """The pair behind one sign more of both, and the number of cuts there that just one of both has: 0 or 1."""
    one, is_cut = rows[pair[0]][sign]
    other, is_other_cut = rows[pair[1]][sign]
    return (one, other), int(is_cut != is_other_cut)


def unlike_pairs(rows):
    """All pairs of two stands that are not the same, in one order of both."""
    return [(one, other) for other in range(len(rows)) for one in range(other)]


def unlike_moves(rows, firsts):
    """A dict of all pairs of unlike stands that the first ones lead to, without a pair of equal ones on the way.

    Each has the list of its moves to such pairs: tuples of the pair behind one sign more, and the cost of
    that sign, the number of cuts that just one has there.
    """
    moves = {}
    waiting = list(firsts)
    while waiting:
        pair = waiting.pop()
        if pair not in moves:
            steps = [both_read(rows, pair, sign) for sign in range(len(rows[pair[0]]))]
            moves[pair] = [(after, cost) for after, cost in steps if after[0] != after[1]]
            waiting.extend([after for after, _ in moves[pair]])
    return moves


def greatest_cost(rows, firsts):
    """The greatest number of cuts that just one of a pair has, over all signs behind any first pair.

    `firsts` has for each first pair the cost that comes with it. None if the number has no end.
    """
    moves = unlike_moves(rows, list(firsts))
    costs = dearest(moves)
    # A pair that comes back costs each time: a cut of both would make their stands alike, once they have read
    # a window of equal signs; and without any cut pieces grow, or are both as long as lengths are told apart.
    if len(costs) < len(moves):
        return None
    return max([cost + costs[pair] for pair, cost in firsts.items()])
