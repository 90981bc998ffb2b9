"""What the document says of pairs of texts and of pairs of rules, in its plainest form, over all short texts."""

from itertools import combinations, product

from cutsagain.rules import Rule

from tests.plain import all_texts, grows_for_ever, is_cut, plain_cuts, plain_longest, plain_stand


def with_stands(rule):
    """A dict of all stands with one text each: every text that is told is one sign longer than another."""
    texts = {plain_stand(rule, ()): ()}
    waiting = [()]
    while waiting:
        text = waiting.pop(0)
        for sign in range(rule.signs):
            stand = plain_stand(rule, text + (sign,))
            if stand not in texts:
                texts[stand] = text + (sign,)
                waiting.append(text + (sign,))
    return texts


def plain_meets(rule, limit):
    """meets, or None if texts can still be unlike behind so many signs as limit."""
    texts = list(with_stands(rule).values())
    waiting = [()]
    for many in range(limit + 1):
        unlike = [signs for signs in waiting if len({plain_stand(rule, text + signs) for text in texts}) > 1]
        if not unlike:
            return many - 1
        waiting = [signs + (sign,) for signs in unlike for sign in range(rule.signs)]
    return None


def plain_apart(rule, one, other):
    return len(set(plain_cuts(rule, one)) ^ set(plain_cuts(rule, other)))


def plain_is_for_ever(rule, one, other, signs):
    """Whether the three, all tuples of signs, stay apart."""
    return (bool(signs) and plain_stand(rule, one) != plain_stand(rule, other)
            and plain_stand(rule, one + signs) == plain_stand(rule, one)
            and plain_stand(rule, other + signs) == plain_stand(rule, other))


def short_differences(rule, texts, longest):
    """The greatest apart of two texts that differ in one sign, behind one of the texts and so many signs ahead."""
    found = 0
    for text, signs in product(texts, all_texts(rule.signs, longest)):
        for one, other in combinations(range(rule.signs), 2):
            found = max(found, plain_apart(rule, text + (one,) + signs, text + (other,) + signs))
    return found


def plain_differences(rule):
    """differences, by more and more signs behind the changed one."""
    texts = with_stands(rule)
    return plain_greatest(rule, texts, [both_longer(rule, texts, (text, text), signs) for text in texts.values()
                                        for signs in combinations(range(rule.signs), 2)])


def plain_shifted(rule, text, place, sign):
    longer = text[:place] + (sign,) + text[place:]
    text_cuts, longer_cuts = plain_cuts(rule, text), plain_cuts(rule, longer)
    cost = 1 if place + 1 in longer_cuts else 0
    for many in range(place + 1, len(text) + 1):
        if (many in text_cuts) != (many + 1 in longer_cuts):
            cost += 1
    return cost


def short_put_in(rule, texts, longest):
    """The greatest cost of a sign that is put in behind one of the texts, and so many signs ahead at most."""
    return max(plain_shifted(rule, text + signs, len(text), sign)
               for text in texts for signs in all_texts(rule.signs, longest) for sign in range(rule.signs))


def plain_put_in(rule):
    """put_in, by more and more signs behind the one that is put in."""
    texts = with_stands(rule)
    firsts = []
    for text in texts.values():
        for sign in range(rule.signs):
            longer = text + (sign,)
            firsts.append(((text, texts[plain_stand(rule, longer)]), plain_shifted(rule, text, len(text), sign)))
    return plain_greatest(rule, texts, firsts)


def plain_greatest(rule, texts, firsts):
    """The greatest cost of signs behind any first pair of texts, all pairs told with what they cost; or None."""
    best = max(cost for _, cost in firsts)
    layer = dearest_unlike(firsts)
    seen = set(layer)
    for _ in range(100000):
        layer = dearest_unlike([both_longer(rule, texts, pair, (sign, sign), cost)
                                for pair, cost in layer.items() for sign in range(rule.signs)])
        if not layer:
            return best
        seen |= set(layer)
        best = max(best, *layer.values())
        # So many differences that some pair came back with one between: that goes on for ever.
        if best > len(seen) + 1:
            return None
    raise AssertionError("no end is in sight")


def both_longer(rule, texts, pair, signs, cost=0):
    """Texts with the stands behind one sign more of each, and the cost so far."""
    longer = [text + (sign,) for text, sign in zip(pair, signs)]
    ends = [len(text) in plain_cuts(rule, text) for text in longer]
    return tuple(texts[plain_stand(rule, text)] for text in longer), cost + (ends[0] != ends[1])


def dearest_unlike(pairs):
    """A dict of the pairs of unlike texts, each with its greatest cost."""
    layer = {}
    for pair, cost in pairs:
        if pair[0] != pair[1]:
            layer[pair] = max(layer.get(pair, 0), cost)
    return layer


def plain_parting(one, other, limit):
    """parting, or None if all texts of at most so many signs are cut alike."""
    layer = [((), 0, 0)]
    for many in range(limit):
        further = []
        for text, begin, other_begin in layer:
            for sign in range(one.signs):
                longer = text + (sign,)
                cut = is_cut(one, longer, many + 1 - begin)
                if cut != is_cut(other, longer, many + 1 - other_begin):
                    return longer
                further.append((longer, many + 1 if cut else begin, many + 1 if cut else other_begin))
        layer = further
    return None


def plain_needless(rule, limit):
    """The words without which all texts of at most so many signs are cut alike."""
    return [word for word in rule.words
            if plain_parting(rule, Rule(rule.signs, rule.window, tuple(other for other in rule.words if other != word),
                                        rule.least, rule.most), limit) is None]


def plain_fewest(rule, goal, most, limit):
    """fewest_words, if no piece of any rule of these words is longer than limit or else it grows for ever."""
    every = list(product(range(rule.signs), repeat=rule.window))
    for many in range(most + 1):
        found = []
        for words in combinations(every, many):
            if not set(words) & set(rule.words):
                whole = Rule(rule.signs, rule.window, tuple(sorted({*rule.words, *words})), rule.least, rule.most)
                if not grows_for_ever(whole) and plain_longest(whole, limit)[0] <= goal:
                    found.append(words)
        if found:
            return found
    return []
