"""Walks over states by moves that cost: what the dearest ones cost, and where they lead.

`moves` has for each state the list of its moves, tuples (state, cost), with costs not below 0.
"""


def dearest(moves):
    """The greatest cost of a walk from each state; states from which a walk can go on for ever are left out."""
    ahead = turned(moves)
    left = {state: len(steps) for state, steps in moves.items()}
    costs = {}
    ready = [state for state in moves if left[state] == 0]
    while ready:
        state = ready.pop()
        costs[state] = max([cost + costs[after] for after, cost in moves[state]], default=0)
        for before in ahead[state]:
            left[before] = left[before] - 1
            if left[before] == 0:
                ready.append(before)
    return costs


def turned(moves):
    """For each state the list of those that lead to it, once for each of their moves."""
    ahead = {state: [] for state in moves}
    for state, steps in moves.items():
        for after, _ in steps:
            ahead[after].append(state)
    return ahead


def leading(moves, end):
    """A dict of all states from which a walk leads to the end, the end among them."""
    ahead = turned(moves)
    found = {end: True}
    waiting = [end]
    while waiting:
        state = waiting.pop()
        for before in ahead[state]:
            if before not in found:
                found[before] = True
                waiting.append(before)
    return found
