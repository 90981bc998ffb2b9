import unittest
from itertools import combinations, product

from cutsagain.errors import BadText
from cutsagain.kinds import akin, kinds, parted_by
from cutsagain.meeting import together
from cutsagain.rules import Rule, cuts

from tests.plain import LENGTHS, NO_TEXTS, all_texts, plain_cuts, plain_stand, some_rules, told
from tests.plain_pairs import with_stands
from tests.plain_runs import plain_kinds, plain_parted, plain_parted_by

ONES = Rule(2, 1, ((1,),), 1, None)
SHORT = Rule(2, 1, ((1,),), 2, 3)


def few_rules():
    return (some_rules(2, 1, LENGTHS[::2]) + some_rules(2, 2, [(1, None), (3, None), (1, 3), (2, 4)], 2)
            + some_rules(2, 3, [(1, None), (2, 3)], 40) + some_rules(3, 1, [(1, None), (2, None), (1, 3)])
            + some_rules(3, 2, [(1, None), (2, 3)], 130))


class PartedByTest(unittest.TestCase):
    def test_examples_by_hand(self):
        self.assertEqual(parted_by(SHORT, (), (0,)), (1,))
        self.assertIsNone(parted_by(SHORT, (), (0, 0, 0)))
        self.assertEqual(parted_by(SHORT, (0,), (0, 0)), (0,))
        self.assertIsNone(parted_by(ONES, (), (1, 1)))
        # Behind 0, the word 0 1 is begun.
        pair = Rule(2, 2, ((0, 1),), 1, None)
        self.assertEqual(parted_by(pair, (), (0,)), (1,))
        self.assertIsNone(parted_by(pair, (), (1,)))
        # The first sign that can part them is not the first one behind them.
        self.assertEqual(parted_by(Rule(2, 1, ((1,),), 5, None), (), (0,)), (0, 0, 0, 1))
        self.assertEqual(parted_by(Rule(2, 1, (), 1, 8), (), (0,)), (0,) * 7)

    def test_shorter_signs_come_ahead_of_lesser_ones(self):
        # 0 0 parts them, too, by the most.
        rule = Rule(2, 1, ((1,),), 2, 3)
        self.assertEqual(cuts(rule, (0, 0, 0))[-1], 3)
        self.assertEqual(parted_by(rule, (), (0,)), (1,))

    def test_against_all_short_signs(self):
        for rule in few_rules():
            texts = all_texts(rule.signs, 3 if rule.signs == 2 else 2)[::2]
            for one, other in product(texts, repeat=2):
                found = parted_by(rule, one, other)
                expected = plain_parted_by(rule, one, other, 4)
                if found is None or len(found) > 4:
                    self.assertIsNone(expected, (told(rule), one, other))
                else:
                    self.assertEqual(found, expected, (told(rule), one, other))

    def test_just_one_is_cut_at_the_end(self):
        for rule in some_rules(2, 2, [(3, None), (2, 6), (5, 8)], 2):
            for one, other in product(all_texts(2, 3), repeat=2):
                signs = parted_by(rule, one, other)
                if signs is not None:
                    ends = [len(text + signs) in plain_cuts(rule, text + signs) for text in (one, other)]
                    self.assertEqual(sorted(ends), [False, True])
                    self.assertIsNone(plain_parted_by(rule, one, other, min(3, len(signs) - 1)))

    def test_no_texts(self):
        for value in NO_TEXTS:
            for one, other in ((value, ()), ((), value), (value, value)):
                with self.assertRaises(BadText):
                    parted_by(ONES, one, other)
                with self.assertRaises(BadText):
                    akin(ONES, one, other)

    def test_texts_of_400_signs(self):
        self.assertIsNone(parted_by(SHORT, (0,) * 399, (0,) * 396))
        self.assertEqual(parted_by(SHORT, (0,) * 400, (0,) * 399), (1,))
        self.assertIs(akin(SHORT, (0,) * 400, (0,)), True)
        self.assertIs(akin(Rule(3, 1, (), 1, None), (2,) * 400, ()), True)


class AkinTest(unittest.TestCase):
    def test_examples_by_hand(self):
        self.assertIs(akin(ONES, (0,), (1, 1)), True)
        self.assertIs(akin(SHORT, (), (0,)), False)
        # Not together: the last signs differ, and so do the lengths.
        self.assertIs(together(ONES, (0,), (1,)), False)
        self.assertIs(akin(ONES, (0,), (1,)), True)

    def test_against_pairs_that_are_parted(self):
        for rule in few_rules()[::2]:
            stands, parted = with_stands(rule), plain_parted(rule)
            texts = all_texts(rule.signs, 4 if rule.signs == 2 else 2)[::2]
            behind = {text: stands[plain_stand(rule, text)] for text in texts}
            for one, other in product(texts, repeat=2):
                expected = (behind[one], behind[other]) not in parted
                self.assertIs(akin(rule, one, other), expected, (told(rule), one, other))
                self.assertIs(parted_by(rule, one, other) is None, expected)

    def test_texts_that_are_akin_stay_so(self):
        for rule in (SHORT, Rule(2, 2, ((0, 1),), 2, 4), Rule(2, 3, ((0, 1, 0), (1, 1, 1)), 2, None)):
            texts = all_texts(2, 4)
            for one, other in product(texts[::3], texts[::2]):
                if together(rule, one, other):
                    self.assertIs(akin(rule, one, other), True)
                if akin(rule, one, other):
                    for signs in all_texts(2, 3)[::4]:
                        self.assertIs(akin(rule, one + signs, other + signs), True)
                        self.assertEqual([place - len(one) for place in cuts(rule, one + signs) if place > len(one)],
                                         [place - len(other) for place in cuts(rule, other + signs)
                                          if place > len(other)])


class KindsTest(unittest.TestCase):
    def test_examples_by_hand(self):
        self.assertEqual(kinds(ONES), [()])
        self.assertEqual(kinds(SHORT), [(), (0,), (0, 0)])
        self.assertEqual(kinds(Rule(2, 2, ((0, 1),), 1, None)), [(), (0,)])
        self.assertEqual(kinds(Rule(2, 2, ((1, 0),), 1, None)), [(), (1,)])
        self.assertEqual(kinds(Rule(2, 3, ((0, 1, 1),), 1, None)), [(), (0,), (0, 1)])
        # The window is over a cut, so that each 1 behind 0 1 1 is like the first one.
        self.assertEqual(kinds(Rule(2, 2, ((1, 1),), 1, None)), [(), (1,)])

    def test_against_pairs_that_are_parted(self):
        for rule in few_rules() + some_rules(3, 1, LENGTHS[::2], 3):
            self.assertEqual(kinds(rule), plain_kinds(rule), told(rule))

    def test_the_first_kind_is_that_of_the_empty_text(self):
        for rule in few_rules():
            self.assertEqual(kinds(rule)[0], ())

    def test_each_text_is_of_one_kind_and_no_lesser_one_of_it(self):
        for rule in few_rules()[::4]:
            found = kinds(rule)
            self.assertEqual(found, sorted(found, key=lambda text: (len(text), text)))
            for text in all_texts(rule.signs, 4 if rule.signs == 2 else 3):
                like = [kind for kind in found if akin(rule, kind, text)]
                self.assertEqual(len(like), 1)
                self.assertLessEqual((len(like[0]), like[0]), (len(text), text))

    def test_rules_of_the_most_stands(self):
        every = list(product(range(3), repeat=3))
        for least, most in ((1, 8), (6, 8), (3, None)):
            rule = Rule(3, 3, tuple(every[::5]), least, most)
            found = kinds(rule)
            for text, other in combinations(found[::9], 2):
                self.assertIs(akin(rule, text, other), False)
            for text in list(with_stands(rule).values())[::17]:
                self.assertTrue(text in found or any(akin(rule, text, kind) for kind in found), text)


if __name__ == "__main__":
    unittest.main()
