"""What the document says of stands that come together, of kinds, of the long run and of common cuts, plainly."""

from fractions import Fraction
from itertools import product

from tests.plain import all_texts, is_cut, plain_cuts, plain_stand


def true_stand(rule, text):
    """The stand, with lengths that are all unlike."""
    return text[max(0, len(text) - rule.window):], len(text) - max(plain_cuts(rule, text), default=0)


def plain_moves(rule, stand_of=plain_stand):
    """For one text of each stand the list, by sign, of the text of the stand behind it and whether there is a cut."""
    texts, moves, waiting = {stand_of(rule, ()): ()}, {}, [()]
    while waiting:
        text = waiting.pop(0)
        moves[text] = []
        for sign in range(rule.signs):
            longer = text + (sign,)
            if stand_of(rule, longer) not in texts:
                texts[stand_of(rule, longer)] = longer
                waiting.append(longer)
            moves[text].append((texts[stand_of(rule, longer)], len(longer) in plain_cuts(rule, longer)))
    return moves


def plain_resets(rule, texts, signs):
    """Whether signs are resets, by one text with each stand."""
    return len({plain_stand(rule, text + signs) for text in texts}) == 1


def plain_least_reset(rule):
    """least_reset, by what is left of all stands behind longer and longer signs."""
    moves = plain_moves(rule)
    layer, seen = {frozenset(moves): ()}, set()
    while layer:
        seen |= set(layer)
        further = {}
        for left, signs in layer.items():
            if len(left) == 1:
                return signs
            for sign in range(rule.signs):
                further.setdefault(frozenset(moves[text][sign][0] for text in left), signs + (sign,))
        layer = {left: signs for left, signs in further.items() if left not in seen}
    return None


def pairs_with(moves, found):
    """The pairs of texts with a stand, with those that are found and all that lead to one of the pairs found."""
    pairs = set(found)
    many = -1
    while many < len(pairs):
        many = len(pairs)
        for one, other in product(moves, repeat=2):
            if any((here, there) in pairs for (here, _), (there, _) in zip(moves[one], moves[other])):
                pairs.add((one, other))
    return pairs


def plain_together(rule):
    """All pairs of texts, one for each stand, that some signs bring together."""
    moves = plain_moves(rule)
    return pairs_with(moves, {(text, text) for text in moves})


def plain_parted(rule):
    """All pairs of texts, one for each stand, that are not cut alike in all that can come."""
    moves = plain_moves(rule)
    return pairs_with(moves, {(one, other) for one, other in product(moves, repeat=2)
                              if [cut for _, cut in moves[one]] != [cut for _, cut in moves[other]]})


def plain_parted_by(rule, one, other, limit):
    """parted_by, or None if no signs of at most so many do so."""
    for signs in all_texts(rule.signs, limit):
        ends = [len(text + signs) in plain_cuts(rule, text + signs) for text in (one, other)]
        if signs and ends[0] != ends[1]:
            return signs
    return None


def plain_kinds(rule):
    parted = plain_parted(rule)
    found = []
    for text in plain_moves(rule):
        if all((text, other) in parted for other in found):
            found.append(text)
    return found


def plain_lot(moves):
    """The texts of the stands that all stands lead to."""
    lot = set(moves)
    for text in moves:
        reached, waiting = {text}, [text]
        while waiting:
            further = {after for after, _ in moves[waiting.pop()]} - reached
            reached |= further
            waiting.extend(further)
        lot &= reached
    return sorted(lot)


def plain_long_run(moves):
    """The share of each stand in the long run, by what the shares of all are, one sign later; None if not sure."""
    lot = plain_lot(moves)
    if not lot:
        return None
    rows = []
    for text in lot:
        row = [Fraction([after for after, _ in moves[before]].count(text), len(moves[before])) for before in lot]
        row[lot.index(text)] -= 1
        rows.append(row + [Fraction(0)])
    # The shares add up to 1; one of the other lines follows from the rest.
    rows[-1] = [Fraction(1)] * (len(lot) + 1)
    for at in range(len(lot)):
        chosen = next(number for number in range(at, len(lot)) if rows[number][at] != 0)
        rows[at], rows[chosen] = rows[chosen], rows[at]
        rows[at] = [part / rows[at][at] for part in rows[at]]
        for number, row in enumerate(rows):
            if number != at and row[at] != 0:
                rows[number] = [part - row[at] * own for part, own in zip(row, rows[at])]
    return {text: row[-1] for text, row in zip(lot, rows)}


def plain_share(rule):
    moves = plain_moves(rule)
    run = plain_long_run(moves)
    return None if run is None else sum(share * Fraction(sum(cut for _, cut in moves[text]), rule.signs)
                                        for text, share in run.items())


def plain_piece_shares(rule):
    """piece_shares as a dict of fractions, for a rule without a ring."""
    moves = plain_moves(rule, true_stand)
    run = plain_long_run(moves)
    if run is None:
        return None
    ends = {}
    for text, share in run.items():
        length = true_stand(rule, text)[1] + 1
        ends[length] = ends.get(length, 0) + share * sum(cut for _, cut in moves[text])
    return {length: ends[length] / sum(ends.values()) for length in sorted(ends) if ends[length]}


def plain_gaps(one, other, longest):
    """For each number of signs to a common cut, the first text of at most so many signs that ends with such a one."""
    found = {}
    layer = [((), 0, 0, 0)]
    for many in range(1, longest + 1):
        further = []
        for text, begin, other_begin, common in layer:
            for sign in range(one.signs):
                longer = text + (sign,)
                cut, other_cut = is_cut(one, longer, many - begin), is_cut(other, longer, many - other_begin)
                if cut and other_cut:
                    found.setdefault(many - common, longer)
                further.append((longer, many if cut else begin, many if other_cut else other_begin,
                                many if cut and other_cut else common))
        layer = further
    return found


def plain_many(one, other):
    """The greatest number of signs to a common cut, 0 if there is none; None if that has no end."""
    moves = {}
    waiting = [((), ())]
    here, there = plain_moves(one), plain_moves(other)
    while waiting:
        pair = waiting.pop()
        if pair not in moves:
            moves[pair] = [((after, other_after), cut and other_cut) for (after, cut), (other_after, other_cut)
                           in zip(here[pair[0]], there[pair[1]])]
            waiting.extend(after for after, _ in moves[pair])
    layer = {((), ())} | {after for row in moves.values() for after, common in row if common}
    greatest = 0
    # Behind more signs than there are pairs, one came back without a common cut, and can come back again.
    for many in range(1, 2 * len(moves) + 2):
        if any(common for pair in layer for _, common in moves[pair]):
            greatest = many
        layer = {after for pair in layer for after, common in moves[pair] if not common}
    return None if greatest > len(moves) else greatest
