"""What a sign that is put in, or struck, costs in cuts."""

from cutsagain.checks import LONGEST_TEXT, check_number, check_text
from cutsagain.errors import BadText
from cutsagain.pairs import greatest_cost
from cutsagain.rules import cuts
from cutsagain.tables import table


def shifted(rule, text, place, sign):
    """How many cuts it costs to put a sign in at a place of a text."""
    check_text(text, rule.signs)
    if len(text) == LONGEST_TEXT:
        raise BadText("no sign can be put into a text of 400 signs")
    check_number(place, 0, len(text))
    check_number(sign, 0, rule.signs - 1)
    longer = text[:place] + (sign,) + text[place:]
    ahead = [at for at in cuts(rule, text) if at > place]
    shifts = [at - 1 for at in cuts(rule, longer) if at > place]
    # A cut behind the sign that is put in falls on the place itself, where the text's own do not count.
    return len(set(ahead) ^ set(shifts))


def put_in(rule):
    """The greatest number of cuts that a sign that is put in can cost, None if it has no end."""
    _, rows = table(rule)
    # Each sign leads to a stand of its own, so that no pair comes from two signs.
    firsts = {(stand, after): int(is_cut) for stand, row in enumerate(rows) for after, is_cut in row}
    return greatest_cost(rows, firsts)
