"""A search for what signs lead to, shorter signs first."""


def ways(first, signs, behind):
    """A dict of all states that signs lead to from a first one, each with the least of its shortest signs.

    `behind(state, sign)` is the state behind one sign more, or None where that way is closed. The dict is
    in the order of the ways in it: shorter ones first, then lesser ones.
    """
    found = {first: ()}
    layer = [first]
    while layer:
        further = []
        for state in layer:
            for sign in range(signs):
                after = behind(state, sign)
                if after is not None and after not in found:
                    found[after] = found[state] + (sign,)
                    further.append(after)
        layer = further
    return found
