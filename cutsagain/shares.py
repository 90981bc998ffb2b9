"""What share of places are cuts, and of pieces have a length, in the long run."""

from cutsagain.growing import ring
from cutsagain.lots import long_run
from cutsagain.ratios import ratio
from cutsagain.tables import table, true_table


def share(rule):
    """The share of places at which there is a cut, a fraction in least numbers, None if it is not sure."""
    _, rows = table(rule)
    times = long_run(rows)
    if times is None:
        return None
    cuts = sum([many * cuts_of(rows[stand]) for stand, many in times.items()])
    return ratio(cuts, rule.signs * sum(list(times.values())))


def cuts_of(row):
    """By how many signs there is a cut."""
    return len([is_cut for _, is_cut in row if is_cut])


def piece_shares(rule):
    """The shares of all pieces that have each length, None if they are not sure or pieces grow for ever."""
    if ring(rule) is not None:
        return None
    lengths, rows = true_table(rule)
    times = long_run(rows)
    if times is None:
        return None
    ends = {}
    for stand, many in times.items():
        cuts = many * cuts_of(rows[stand])
        if cuts > 0:
            length = lengths[stand] + 1
            ends[length] = ends.get(length, 0) + cuts
    pieces = sum(list(ends.values()))
    found = []
    for length in sorted(ends):
        numerator, denominator = ratio(ends[length], pieces)
        found.append((length, numerator, denominator))
    return found
