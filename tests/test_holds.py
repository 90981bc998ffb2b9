"""What holds of the answers of several modules, beside each other, for rules of all kinds."""

import unittest
from fractions import Fraction
from itertools import product

from cutsagain.both import first_common, longest_common
from cutsagain.errors import TooMany
from cutsagain.growing import longest
from cutsagain.kinds import akin, kinds
from cutsagain.meeting import differences, for_ever, meets, together
from cutsagain.resets import is_never, least_reset, never, resets
from cutsagain.rules import Rule, cuts
from cutsagain.shares import piece_shares, share
from cutsagain.shifting import put_in, shifted
from cutsagain.sides import alike, needless

from tests.plain import LENGTHS, all_texts, some_rules, told


def every_rule():
    return (some_rules(2, 1, LENGTHS) + some_rules(2, 2, LENGTHS[::3]) + some_rules(2, 3, LENGTHS[::4], 30)
            + some_rules(3, 1, LENGTHS[::3]) + some_rules(3, 2, LENGTHS[::10], 90))


def meeting_rules():
    return [rule for rule in every_rule() + some_rules(2, 3, [(1, None)], 5) if meets(rule) is not None]


class HoldsTest(unittest.TestCase):
    def test_signs_longer_than_meets_are_resets(self):
        for rule in meeting_rules():
            bound = meets(rule)
            with self.subTest(rule=told(rule)):
                self.assertIs(resets(rule, (0,) * (bound + 1)), True)
                if bound < 6:
                    texts = all_texts(rule.signs, bound + 1)
                    self.assertTrue(all(resets(rule, text) for text in texts if len(text) > bound))
                    # And not all that are just as long as meets.
                    self.assertFalse(all(resets(rule, text) for text in texts if len(text) == bound))
                self.assertLessEqual(len(least_reset(rule)), bound + 1)
                self.assertIsNone(never(rule))

    def test_what_meets_bounds(self):
        for rule in meeting_rules():
            # A sign that is put in, or changed, costs a cut behind it, and one for each sign until all is alike.
            self.assertLessEqual(put_in(rule), meets(rule) + 1, told(rule))
            self.assertLessEqual(differences(rule), meets(rule) + 1, told(rule))

    def test_texts_that_are_never_together_stay_apart_for_ever(self):
        for rule in every_rule():
            if never(rule) is not None:
                self.assertIsNotNone(for_ever(rule))
                self.assertIs(is_never(rule, never(rule)), True)
                self.assertIs(together(rule, *never(rule)), False)

    def test_texts_with_the_same_stand_are_akin_and_stay_so(self):
        for rule in every_rule()[::9]:
            texts = all_texts(rule.signs, 4 if rule.signs == 2 else 2)[::2]
            for one, other in product(texts, repeat=2):
                if together(rule, one, other):
                    self.assertIs(akin(rule, one, other), True)
                if akin(rule, one, other):
                    for signs in ((0,), (1, 0, 1)):
                        self.assertIs(akin(rule, one + signs, other + signs), True, (told(rule), one, other))

    def test_rules_that_cut_alike_have_alike_kinds(self):
        for rule in every_rule()[::3]:
            for word in needless(rule):
                other = Rule(rule.signs, rule.window, tuple(left for left in rule.words if left != word), rule.least,
                             rule.most)
                self.assertIs(alike(rule, other), True)
                self.assertEqual(kinds(rule), kinds(other), told(rule))
                self.assertEqual(longest_common(rule, other), longest(rule))

    def test_shares(self):
        for rule in every_rule():
            try:
                places, lengths = Fraction(*share(rule)), piece_shares(rule)
            except TooMany:
                continue
            with self.subTest(rule=told(rule)):
                self.assertLessEqual(places, Fraction(1, rule.least))
                if rule.most is not None:
                    self.assertGreaterEqual(places, Fraction(1, rule.most))
                self.assertEqual(lengths is None, longest(rule) is None)
                if lengths is not None:
                    self.assertEqual(sum(Fraction(*parts) for _, *parts in lengths), 1)
                    self.assertEqual(sum(length * Fraction(*parts) for length, *parts in lengths) * places, 1)
                    self.assertLessEqual(lengths[-1][0], longest(rule)[0])

    def test_each_rule_with_itself(self):
        for rule in every_rule():
            with self.subTest(rule=told(rule)):
                self.assertEqual(longest_common(rule, rule), longest(rule))
                first = first_common(rule, rule)
                self.assertEqual(first is None, rule.words == () and rule.most is None)
                if first is not None:
                    self.assertEqual(cuts(rule, first), [len(first)])
                    for text in all_texts(rule.signs, len(first) - 1):
                        self.assertEqual(cuts(rule, text), [])

    def test_a_sign_that_is_struck_costs_as_many(self):
        for rule in every_rule()[::9]:
            greatest = put_in(rule)
            for text in all_texts(rule.signs, 5 if rule.signs == 2 else 3)[::3]:
                for place in range(len(text)):
                    shorter = text[:place] + text[place + 1:]
                    cost = shifted(rule, shorter, place, text[place])
                    ahead = [at for at in cuts(rule, text) if at > place]
                    behind = [at + 1 for at in cuts(rule, shorter) if at > place]
                    self.assertEqual(cost, len(set(ahead) ^ set(behind)))
                    self.assertTrue(greatest is None or cost <= greatest)


if __name__ == "__main__":
    unittest.main()
