"""Kinds of texts: those that are cut alike in all that can come behind them."""

from cutsagain.checks import check_text
from cutsagain.partings import first_parting
from cutsagain.stands import stand_behind
from cutsagain.tables import table


def parted_by(rule, one, other):
    """The least of the shortest signs at whose end just one of two texts has a cut, None if there are none."""
    check_text(one, rule.signs)
    check_text(other, rule.signs)
    return first_parting(rule, rule, (stand_behind(rule, one), stand_behind(rule, other)))


def akin(rule, one, other):
    """Whether two texts are cut alike in all that can come behind both."""
    return parted_by(rule, one, other) is None


def kinds(rule):
    """For each kind the least of its shortest texts, shorter texts first, then lesser ones."""
    texts, rows = table(rule)
    firsts = {}
    for text, kind in zip(texts, kinds_of_stands(rows)):
        firsts.setdefault(kind, text)
    return list(firsts.values())


def kinds_of_stands(rows):
    """The number of the kind of each stand."""
    found = numbered([tuple([is_cut for _, is_cut in row]) for row in rows])
    many = 0
    # Stands are of one kind as far as they were looked at; one sign more can part them, until none does.
    while many < len(set(found)):
        many = len(set(found))
        found = numbered([(found[stand], tuple([found[after] for after, _ in row]))
                          for stand, row in enumerate(rows)])
    return found


def numbered(marks):
    """A number for each mark, the same one for equal marks."""
    numbers = {}
    return [numbers.setdefault(mark, len(numbers)) for mark in marks]
