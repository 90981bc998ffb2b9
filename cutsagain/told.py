"""Words told back from cuts that were seen."""

from cutsagain.checks import check_lengths, check_signs, check_window, is_number, is_text
from cutsagain.errors import BadSeen
from cutsagain.words import all_words, check_few_words

MOST_SEEN = 12


def fitting(signs, window, least, most, seen):
    """How many sets of words fit all that was seen; the words in all of these sets; those in some of them."""
    check_signs(signs)
    check_window(window)
    check_lengths(least, most)
    check_few_words(signs, window)
    check_seen(seen, signs)
    told = {}
    for text, places in seen:
        verdicts = told_by(window, least, most, text, places)
        if verdicts is None:
            return 0, [], []
        for word, is_cut in verdicts:
            if told.setdefault(word, is_cut) != is_cut:
                return 0, [], []
    words = all_words(signs, window)
    sure = [word for word in words if told.get(word, False)]
    possible = [word for word in words if told.get(word, True)]
    # Nothing is told of the words that are possible and not sure: each of their sets fits.
    return 1 << (len(possible) - len(sure)), sure, possible


def told_by(window, least, most, text, places):
    """The words at the places of a text where words decide, and whether they cut; None if no words cut it so."""
    verdicts = []
    begin = 0
    for place in range(1, len(text) + 1):
        length = place - begin
        is_cut = place in places
        if length == most or length < least or place < window:
            if is_cut != (length == most):
                return None
        else:
            verdicts.append((text[place - window:place], is_cut))
        if is_cut:
            begin = place
    return verdicts


def check_seen(seen, signs):
    if not isinstance(seen, (list, tuple)) or len(seen) > MOST_SEEN:
        raise BadSeen(None)
    for index, thing in enumerate(seen):
        if not is_seen(thing, signs):
            raise BadSeen(index)


def is_seen(thing, signs):
    """Whether a value of any kind is a tuple of a text and ascending places in it."""
    if not isinstance(thing, tuple) or len(thing) != 2:
        return False
    text, places = thing
    if not is_text(text, signs) or not isinstance(places, tuple):
        return False
    ahead = 0
    for place in places:
        if not is_number(place, ahead + 1, len(text)):
            return False
        ahead = place
    return True
