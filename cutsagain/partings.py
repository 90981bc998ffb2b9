"""What parts the cuts of two rules, or of one rule behind two texts."""

from cutsagain.search import ways
from cutsagain.stands import step_both


def first_parting(one, other, stands):
    """The least of the shortest signs, read from two stands, at whose end just one rule has a cut, or None."""
    # No shortest signs that part them go on behind a place where they are parted already.
    found = ways(stands, one.signs, lambda both, sign: step_alike(one, other, both, sign))
    for both, signs in found.items():
        for sign in range(one.signs):
            if step_alike(one, other, both, sign) is None:
                return signs + (sign,)
    return None


def step_alike(one, other, stands, sign):
    """The stands of two rules behind one sign more, None if just one of them has a cut there."""
    after, is_cut, is_other_cut = step_both(one, other, stands, sign)
    return after if is_cut == is_other_cut else None
