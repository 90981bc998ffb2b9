"""All questions of the program, put to one rule, then to another, then to the first again."""

import unittest

from cutsagain.both import first_common, longest_common
from cutsagain.counting import cut_counts, first_cuts, mean_first
from cutsagain.desks import Desk
from cutsagain.errors import (BadLengths, BadLine, BadNumber, BadSeen, BadSigns, BadText, BadWords, CutError, TooMany,
                              Unlike)
from cutsagain.growing import is_ring, longest, ring
from cutsagain.kinds import akin, kinds, parted_by
from cutsagain.meeting import apart, differences, for_ever, is_for_ever, meets, together
from cutsagain.resets import is_never, least_reset, never, resets
from cutsagain.rules import Rule, cuts, pieces
from cutsagain.shares import piece_shares, share
from cutsagain.shifting import put_in, shifted
from cutsagain.sides import alike, fewest_words, needless, parting
from cutsagain.texts import read, write
from cutsagain.told import fitting

RULES = (Rule(2, 1, ((1,),), 1, None), Rule(2, 1, ((1,),), 2, 3), Rule(2, 2, ((0, 1), (1, 1)), 2, None),
         Rule(3, 1, ((0,), (2,)), 1, 4), Rule(3, 2, (), 1, None), Rule(2, 3, ((0, 0, 1),), 6, 8))

TEXT = (0, 1, 1, 0, 1, 0, 0, 0, 1)
OTHER = (1, 1, 0)

SEEN = [((0, 0, 1), ()), ((1, 1), ())]


def of_a_desk(rule):
    desk = Desk(rule)
    told = [desk.tell(TEXT), desk.tell(OTHER), desk.places(), desk.waits(), desk.text, len(desk)]
    copy = desk.copy()
    return told + [copy.undo(), copy.places(), copy.text, len(copy), desk.undo(), desk.rule == rule, desk.places()]


def of_few(question):
    """A question that can be too much to ask."""
    def answer(rule):
        try:
            return question(rule)
        except TooMany:
            return "too many"
    return answer


QUESTIONS = (
    lambda rule: [rule.signs, rule.window, rule.words, rule.least, rule.most],
    lambda rule: cuts(rule, TEXT),
    lambda rule: pieces(rule, TEXT),
    longest,
    ring,
    lambda rule: is_ring(rule, (TEXT, (0,))),
    lambda rule: together(rule, TEXT, OTHER),
    lambda rule: apart(rule, TEXT, OTHER),
    meets,
    differences,
    for_ever,
    lambda rule: is_for_ever(rule, (TEXT, OTHER, (0,) * 6)),
    lambda rule: parting(rule, Rule(rule.signs, 1, (), 1, 5)),
    lambda rule: alike(rule, Rule(rule.signs, 1, (), 1, 5)),
    needless,
    lambda rule: fewest_words(rule, 4, 2),
    lambda rule: first_cuts(rule, 6),
    lambda rule: cut_counts(rule, 6),
    mean_first,
    lambda rule: fitting(rule.signs, rule.window, rule.least, rule.most, SEEN),
    of_a_desk,
    write,
    lambda rule: write(read(write(rule))),
    lambda rule: shifted(rule, TEXT, 2, 1),
    put_in,
    lambda rule: resets(rule, TEXT),
    least_reset,
    never,
    lambda rule: is_never(rule, (TEXT, OTHER)),
    lambda rule: akin(rule, TEXT, OTHER),
    lambda rule: parted_by(rule, TEXT, OTHER),
    kinds,
    of_few(share),
    of_few(piece_shares),
    lambda rule: first_common(rule, Rule(rule.signs, 1, (), 1, 5)),
    lambda rule: longest_common(Rule(rule.signs, 1, (), 1, 5), rule),
)

WRONG = (
    (lambda rule: Rule(4, 4, None, 7, 9), BadSigns),
    (lambda rule: Rule(rule.signs, rule.window, (None,), 7, 9), BadWords),
    (lambda rule: cuts(rule, [0]), BadText),
    (lambda rule: pieces(rule, (True,)), BadText),
    (lambda rule: together(rule, (), None), BadText),
    (lambda rule: apart(rule, (3,), ()), BadText),
    (lambda rule: parting(rule, Rule(5 - rule.signs, 1, (), 1, 5)), Unlike),
    (lambda rule: alike(rule, Rule(5 - rule.signs, 1, (), 1, 5)), Unlike),
    (lambda rule: fewest_words(rule, 0, 4), BadNumber),
    (lambda rule: first_cuts(rule, 31), BadNumber),
    (lambda rule: cut_counts(rule, True), BadNumber),
    (lambda rule: fitting(2, 1, 1, 9, None), BadLengths),
    (lambda rule: fitting(2, 1, 1, 8, None), BadSeen),
    (lambda rule: Desk(rule).tell((0,) * 401), BadText),
    (lambda rule: read(write(rule) + "\nword"), BadLine),
    (lambda rule: shifted(rule, None, None, None), BadText),
    (lambda rule: shifted(rule, (), 1, None), BadNumber),
    (lambda rule: resets(rule, "0"), BadText),
    (lambda rule: akin(rule, (0, 1), ((0,),)), BadText),
    (lambda rule: parted_by(rule, (False,), ()), BadText),
    (lambda rule: first_common(rule, Rule(5 - rule.signs, 1, (), 1, 5)), Unlike),
    (lambda rule: longest_common(Rule(5 - rule.signs, 1, (), 1, 5), rule), Unlike),
    (lambda rule: share(Rule(3, 3, rule.words[:0], 1, 8)), TooMany),
    (lambda rule: piece_shares(Rule(3, 3, rule.words[:0], 1, 8)), TooMany),
)


def spoil(value):
    """Change all lists of an answer."""
    if isinstance(value, (list, tuple)):
        for part in value:
            spoil(part)
    if isinstance(value, list):
        value.reverse()
        value.append("more")


class AgainTest(unittest.TestCase):
    def put(self, rule):
        """The answers of all questions, as they were before their lists were changed."""
        told = []
        for question in QUESTIONS:
            answer = question(rule)
            told.append(repr(answer))
            spoil(answer)
        return told

    def test_answers_come_again(self):
        first = [self.put(rule) for rule in RULES]
        self.assertEqual([self.put(rule) for rule in RULES[::-1]], first[::-1])
        self.assertEqual([self.put(rule) for rule in RULES], first)

    def test_answers_of_rules_made_anew(self):
        for rule in RULES:
            anew = Rule(rule.signs, rule.window, tuple(rule.words), rule.least, rule.most)
            self.assertEqual(self.put(anew), self.put(rule))

    def test_rules_and_arguments_stay_as_they_are(self):
        for rule in RULES:
            before = repr([rule.signs, rule.window, rule.words, rule.least, rule.most, SEEN])
            self.put(rule)
            self.assertEqual(repr([rule.signs, rule.window, rule.words, rule.least, rule.most, SEEN]), before)

    def test_errors_change_nothing(self):
        for rule in RULES:
            first = self.put(rule)
            for call, error in WRONG:
                with self.assertRaises(error) as caught:
                    call(rule)
                self.assertIsInstance(caught.exception, CutError)
            self.assertEqual(self.put(rule), first)


if __name__ == "__main__":
    unittest.main()
