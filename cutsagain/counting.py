"""How many texts have their first cut at a place, and so many cuts in all; and how long first pieces are."""

from cutsagain.checks import check_number
from cutsagain.ratios import ratio
from cutsagain.tables import table

MOST_PLACES = 30


def first_cuts(rule, places):
    """For each number of signs from 0 to places, how many texts of so many signs have their first cut at the end."""
    check_number(places, 0, MOST_PLACES)
    _, rows = table(rule)
    found = [0]
    uncut = {0: 1}
    for _ in range(places):
        further = {}
        ended = 0
        for stand, texts in uncut.items():
            for after, is_cut in rows[stand]:
                if is_cut:
                    ended += texts
                else:
                    further[after] = further.get(after, 0) + texts
        found.append(ended)
        uncut = further
    return found


def cut_counts(rule, places):
    """How many texts of so many signs have 0 cuts, 1 cut and so on, up to the most that one has."""
    check_number(places, 0, MOST_PLACES)
    _, rows = table(rule)
    texts = {(0, 0): 1}
    for _ in range(places):
        texts = one_sign_more(rows, texts)
    found = [0] * (max([cuts for _, cuts in texts]) + 1)
    for (_, cuts), many in texts.items():
        found[cuts] += many
    return found


def one_sign_more(rows, texts):
    """How many texts there are for each stand and number of cuts, behind one sign more than in `texts`."""
    further = {}
    for (stand, cuts), many in texts.items():
        for after, is_cut in rows[stand]:
            key = (after, cuts + int(is_cut))
            further[key] = further.get(key, 0) + many
    return further


def mean_first(rule):
    """The mean length of the first piece as a fraction in least numbers, None if the rule has no most."""
    if rule.most is None:
        return None
    lengths = 0
    texts = 1
    # The sum is kept over all texts of as many signs as were counted.
    for length, ended in enumerate(first_cuts(rule, rule.most)):
        if length > 0:
            lengths = lengths * rule.signs + length * ended
            texts = texts * rule.signs
    return ratio(lengths, texts)
