"""The lot of stands that come again and again for ever, and how often each of them comes."""

from math import gcd

from cutsagain.errors import TooMany
from cutsagain.search import ways
from cutsagain.walks import leading

MOST_STANDS = 40


def long_run(rows):
    """How often stands come in the long run, if each sign is as likely as any other: a dict of integers.

    Only their ratios mean anything. None if what comes for ever is not one and the same lot of stands.
    """
    lot = lasting_lot(rows)
    if lot is None:
        return None
    if len(lot) > MOST_STANDS:
        raise TooMany("more than 40 stands come again and again")
    times = visits([[leads(rows[stand], after) for after in lot] for stand in lot])
    return {stand: many for stand, many in zip(lot, times)}


def lasting_lot(rows):
    """The numbers of the stands that all stands lead to, None if there are none."""
    moves = {stand: row for stand, row in enumerate(rows)}
    for stand in range(len(rows)):
        if len(leading(moves, stand)) == len(rows):
            return list(ways(stand, len(rows[stand]), lambda at, sign: rows[at][sign][0]))
    return None


def leads(row, stand):
    """By how many signs a row leads to a stand."""
    return len([after for after, _ in row if after == stand])


def visits(rates):
    """How often each state comes in the long run, in integers of these ratios.

    `rates` are the rows of how often a state leads to each one, and all states lead to each other. One state after
    the other, the last one first, is left out: the others then lead where they led by way of it. How often it comes
    is told, the other way about, by how often the ones that are left come.
    """
    rates = [list(row) for row in rates]
    ahead = 1
    for state in range(len(rates) - 1, 0, -1):
        out = sum(rates[state][:state])
        for one in range(state):
            for other in range(state):
                by_way = rates[one][state] * rates[state][other]
                # The division keeps numbers small, and leaves no rest but where a state leads to itself.
                rates[one][other] = (rates[one][other] * out + by_way) // ahead
        ahead = out
    times = [1]
    for state in range(1, len(rates)):
        out = sum(rates[state][:state])
        into = sum([many * rates[one][state] for one, many in enumerate(times)])
        times = in_least_numbers([many * out for many in times] + [into])
    return times


def in_least_numbers(times):
    common = 0
    for many in times:
        common = gcd(common, many)
    return [many // common for many in times]
