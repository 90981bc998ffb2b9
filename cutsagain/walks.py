"""Walks over states by moves that cost, and what the dearest walk from each state costs."""


def dearest(moves):
    """The greatest cost of a walk from each state; states from which a walk can go on for ever are left out.

    `moves` has for each state the list of its moves, tuples (state, cost), with costs not below 0.
    """
    ahead = {state: [] for state in moves}
    left = {}
    for state, steps in moves.items():
        left[state] = len(steps)
        for after, _ in steps:
            ahead[after].append(state)
    costs = {}
    ready = [state for state in moves if left[state] == 0]
    while ready:
        state = ready.pop()
        costs[state] = max([cost + costs[after] for after, cost in moves[state]], default=0)
        for before in ahead[state]:
            left[before] = left[before] - 1
            if left[before] == 0:
                ready.append(before)
    return costs
