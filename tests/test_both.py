import unittest
from itertools import product

from cutsagain.both import first_common, longest_common
from cutsagain.errors import Unlike
from cutsagain.growing import longest
from cutsagain.rules import Rule, cuts

from tests.plain import LENGTHS, all_texts, plain_cuts, plain_longest, some_rules, told
from tests.plain_runs import plain_gaps, plain_many

ONES = Rule(2, 1, ((1,),), 1, None)
ZEROS = Rule(2, 1, ((0,),), 1, None)
SHORT = Rule(2, 1, ((1,),), 2, 3)
TWO, THREE = Rule(2, 1, (), 1, 2), Rule(2, 1, (), 1, 3)

# Rules that can lose each other: behind some signs they have no common cut any more, but one ever so long has an end.
LOST = ((Rule(2, 1, ((1,),), 1, 4), Rule(2, 3, ((0, 0, 0),), 4, None), (4, (0,) * 4)),
        (Rule(2, 1, ((0,),), 2, None), Rule(2, 1, ((1,),), 1, 6), (6, (0,) * 6)),
        (Rule(3, 1, ((2,),), 3, None), Rule(3, 1, ((0,), (1,)), 2, 3), (3, (0, 2, 2))))


def few_pairs():
    """Pairs of rules of all kinds, every so many-th one of all."""
    twos = (some_rules(2, 1, LENGTHS[::4]) + some_rules(2, 2, [(1, None), (2, None), (1, 3), (2, 4)], 3)
            + some_rules(2, 3, [(1, None), (2, 3)], 80))
    threes = some_rules(3, 1, [(1, None), (2, None), (1, 3), (2, 4)]) + some_rules(3, 2, [(2, None), (1, 3)], 150)
    return list(product(twos, repeat=2))[::7] + list(product(threes, repeat=2))[::5]


class FirstCommonTest(unittest.TestCase):
    def test_examples_by_hand(self):
        self.assertEqual(first_common(TWO, THREE), (0,) * 6)
        self.assertEqual(first_common(ONES, ONES), (1,))
        self.assertEqual(first_common(ONES, TWO), (0, 1))
        self.assertEqual(first_common(ONES, SHORT), (0, 1))
        self.assertEqual(first_common(ONES, THREE), (0, 0, 1))
        self.assertEqual(first_common(Rule(2, 2, ((0, 1),), 1, None), Rule(2, 1, ((1,),), 4, None)), (0, 0, 0, 1))
        self.assertEqual(first_common(Rule(2, 2, ((0, 1),), 1, None), Rule(2, 3, ((1, 0, 1),), 1, None)), (1, 0, 1))

    def test_none(self):
        self.assertIsNone(first_common(ONES, ZEROS))
        self.assertIsNone(first_common(Rule(2, 1, (), 1, None), ONES))
        self.assertIsNone(first_common(Rule(2, 2, ((0, 1),), 1, None), Rule(2, 3, ((0, 0, 0), (1, 1, 1)), 2, None)))
        # One cuts at 2, 4, .., the other at 3, 5, ..
        self.assertIsNone(first_common(TWO, some_rules(2, 3, [(2, None)])[-1]))

    def test_against_all_short_texts(self):
        found = []
        for one, other in few_pairs():
            text = first_common(one, other)
            gaps = plain_gaps(one, other, 6 if one.signs == 2 else 4)
            first = min(gaps.values(), key=lambda longer: (len(longer), longer), default=None)
            with self.subTest(one=told(one), other=told(other)):
                if text is None or len(text) > (6 if one.signs == 2 else 4):
                    self.assertIsNone(first)
                else:
                    self.assertEqual(text, first)
                self.assertEqual(text is None, plain_many(one, other) == 0)
                if text is not None:
                    self.assertEqual([len(text) in plain_cuts(rule, text) for rule in (one, other)], [True, True])
                found.append(None if text is None else len(text))
        self.assertGreaterEqual(len(set(found)), 5)

    def test_the_order_of_the_rules_is_nothing_to_it(self):
        for one, other in few_pairs()[::5]:
            self.assertEqual(first_common(one, other), first_common(other, one))
            self.assertEqual(longest_common(one, other), longest_common(other, one))

    def test_unlike_numbers_of_signs(self):
        for one, other in ((ONES, Rule(3, 1, ((1,),), 1, None)), (Rule(3, 1, (), 1, 1), TWO),
                           (Rule(3, 3, (), 1, None), Rule(2, 3, (), 1, None))):
            for question in (first_common, longest_common):
                with self.assertRaises(Unlike):
                    question(one, other)


class LongestCommonTest(unittest.TestCase):
    def test_examples_by_hand(self):
        self.assertEqual(longest_common(TWO, THREE), (6, (0,) * 6))
        self.assertEqual(longest_common(Rule(2, 1, (), 1, 7), Rule(2, 1, (), 1, 8)), (56, (0,) * 56))
        self.assertEqual(longest_common(Rule(2, 1, (), 1, 4), Rule(2, 1, (), 1, 6)), (12, (0,) * 12))
        self.assertEqual(longest_common(SHORT, SHORT), (3, (0, 0, 0)))
        # The begin of the text is as far away as it gets: 4 signs, and 2 from each common cut to the next.
        late = Rule(2, 3, tuple(product(range(2), repeat=3)), 1, None)
        self.assertEqual(longest_common(late, TWO), (4, (0,) * 4))
        # One cuts at 3, 6, 9, .., so that each sixth place is common.
        late = Rule(2, 3, tuple(product(range(2), repeat=3)), 3, None)
        self.assertEqual(longest_common(late, TWO), (6, (0,) * 6))

    def test_behind_a_common_cut_it_can_be_longer_than_from_the_begin(self):
        # The first common cut is at 3; from there on both have to come to 6.
        one = Rule(2, 3, tuple(product(range(2), repeat=3)), 2, None)
        self.assertEqual(longest_common(one, THREE), (6, (0,) * 9))

    def test_no_end(self):
        self.assertIsNone(longest_common(TWO, ONES))
        self.assertIsNone(longest_common(ONES, ONES))
        self.assertIsNone(longest_common(SHORT, ONES))
        # 1s hold the common cut off as long as they come.
        self.assertIsNone(longest_common(Rule(2, 1, ((1,),), 1, 3), Rule(2, 1, ((0,),), 1, None)))

    def test_no_common_cut(self):
        self.assertIsNone(longest_common(ONES, ZEROS))
        self.assertIsNone(longest_common(Rule(2, 1, (), 1, None), Rule(2, 1, (), 1, None)))
        self.assertIsNone(longest_common(TWO, some_rules(2, 3, [(2, None)])[-1]))

    def test_signs_behind_which_none_comes_again(self):
        for one, other, expected in LOST:
            self.assertEqual(longest_common(one, other), expected)
            self.assertEqual(plain_many(one, other), expected[0])
            gaps = plain_gaps(one, other, 12 if one.signs == 2 else 8)
            self.assertEqual((max(gaps), gaps[max(gaps)]), expected)
        # Behind one 1, 0s are cut at 1, 5, 9, .. by one rule, at 4, 8, 12, .. by the other; 1s bring neither nearer.
        one, other, _ = LOST[0]
        for signs in all_texts(2, 9)[-512:]:
            text = (1,) + signs
            self.assertEqual(set(plain_cuts(one, text)) & set(plain_cuts(other, text)), set())

    def test_against_all_short_texts(self):
        found = []
        for one, other in few_pairs():
            longest_one = longest_common(one, other)
            many = plain_many(one, other)
            with self.subTest(one=told(one), other=told(other)):
                self.assertEqual(longest_one[0] if longest_one else None, many or None)
                if longest_one:
                    limit = 8 if one.signs == 2 else 5
                    gaps = plain_gaps(one, other, limit)
                    self.assertLessEqual(max(gaps, default=0), many)
                    self.assertEqual(gaps.get(many), longest_one[1] if len(longest_one[1]) <= limit else None)
                found.append(many)
        self.assertGreaterEqual(len(set(found)), 6)

    def test_the_text_ends_with_such_signs(self):
        for one, other in few_pairs():
            found = longest_common(one, other)
            if found is not None:
                many, text = found
                common = [0] + sorted(set(plain_cuts(one, text)) & set(plain_cuts(other, text)))
                self.assertEqual((common[-1], common[-1] - common[-2]), (len(text), many))


class ItselfTest(unittest.TestCase):
    def test_each_rule_with_itself_has_its_own_cuts(self):
        for rule in (some_rules(2, 1, LENGTHS) + some_rules(2, 2, LENGTHS[::3]) + some_rules(2, 3, LENGTHS[::9], 50)
                     + some_rules(3, 1, LENGTHS[::5]) + some_rules(3, 2, [(2, None), (1, 4)], 100)):
            with self.subTest(rule=told(rule)):
                self.assertEqual(longest_common(rule, rule), longest(rule))
                first = first_common(rule, rule)
                if first is None:
                    self.assertEqual((rule.words, rule.most), ((), None))
                else:
                    self.assertEqual(cuts(rule, first), [len(first)])

    def test_against_plain_pieces(self):
        for rule in (SHORT, TWO, Rule(2, 2, ((0, 0), (0, 1), (1, 1)), 3, None)):
            self.assertEqual(longest_common(rule, rule), plain_longest(rule, 10))


if __name__ == "__main__":
    unittest.main()
