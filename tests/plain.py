"""What the document says, in its plainest form, to hold the program against: slow, and without stands' tables."""

from itertools import combinations, product

from cutsagain.rules import Rule

WINDOWS = [(2, 1), (2, 2), (2, 3), (3, 1), (3, 2), (3, 3)]

LENGTHS = [(least, most) for least in range(1, 7) for most in (None, *range(least, 9))]

# Values that are no texts of two signs.
NO_TEXTS = (None, True, False, 0, 1, "", "01", [], [0], {}, {0: 0}, (2,), (-1,), (0, True), (False,), ("0",), (None,),
            ((0,),), ([0],), (0,) * 401)


def told(rule):
    """What a rule was made of, to tell it when a test fails."""
    return rule.signs, rule.window, rule.words, rule.least, rule.most


def all_texts(signs, longest):
    """All tuples of at most so many signs, shorter ones first, then lesser ones."""
    return [text for many in range(longest + 1) for text in product(range(signs), repeat=many)]


def all_words(signs, window):
    """All sets of words, as ascending tuples."""
    words = all_of(signs, window)
    return [chosen for many in range(len(words) + 1) for chosen in combinations(words, many)]


def all_of(signs, window):
    """The ascending tuple of all words."""
    return tuple(product(range(signs), repeat=window))


def some_rules(signs, window, lengths, every=1):
    """The rules of all sets of words, or of every so many-th one, with the given lengths."""
    return [Rule(signs, window, words, least, most)
            for words in all_words(signs, window)[::every] for least, most in lengths]


def rules_of_one_sign(least, most):
    """The rules by which one sign cuts, with this sign and the least other one."""
    for signs in (2, 3):
        for sign in range(signs):
            yield Rule(signs, 1, ((sign,),), least, most), sign, 1 if sign == 0 else 0


def many_rules():
    """Rules of many kinds, some of them with answers of all sizes, and not too slow for searches through pairs."""
    return (some_rules(2, 1, LENGTHS[::3]) + some_rules(2, 2, [(1, None), (2, None), (1, 3)])
            + some_rules(2, 3, [(1, None), (2, None)], 30) + some_rules(3, 1, LENGTHS[::9])
            + some_rules(3, 2, [(1, None), (2, None)], 100))


def is_cut(rule, text, length):
    """Whether there is a cut at the end of a text whose piece has this length."""
    if rule.most is not None and length == rule.most:
        return True
    if length < rule.least or len(text) < rule.window:
        return False
    return any(text[len(text) - rule.window:] == word for word in rule.words)


def plain_cuts(rule, text):
    places = []
    begin = 0
    for place in range(1, len(text) + 1):
        if is_cut(rule, text[:place], place - begin):
            places.append(place)
            begin = place
    return places


def plain_stand(rule, text):
    length = len(text) - max(plain_cuts(rule, text), default=0)
    if rule.most is None and length > rule.least:
        length = rule.least
    return text[max(0, len(text) - rule.window):], length


def plain_is_ring(rule, text, signs):
    """Whether text and signs, both tuples of signs, are endless."""
    whole = text + signs
    if not signs or plain_stand(rule, text) != plain_stand(rule, whole):
        return False
    return all(place <= len(text) for place in plain_cuts(rule, whole))


def plain_longest(rule, limit):
    """longest, if no piece is longer than limit: by all texts of at most so many signs."""
    best = None
    texts = [((), 0)]
    for many in range(limit):
        further = []
        for text, begin in texts:
            for sign in range(rule.signs):
                longer = text + (sign,)
                cut = is_cut(rule, longer, len(longer) - begin)
                if cut and (best is None or len(longer) - begin > best[0]):
                    best = (len(longer) - begin, longer)
                further.append((longer, len(longer) if cut else begin))
        texts = further
    return best


def grows_for_ever(rule):
    """Whether some text is so long without any cut that its last signs and its length must have come before."""
    lasts = {()}
    for length in range(1, rule.signs ** rule.window + rule.window + 9):
        longer = [last + (sign,) for last in sorted(lasts) for sign in range(rule.signs)]
        lasts = {text[-rule.window:] for text in longer if not is_cut(rule, text, length)}
    return bool(lasts)
