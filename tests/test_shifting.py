import unittest
from itertools import product

from cutsagain.errors import BadNumber, BadText
from cutsagain.meeting import meets
from cutsagain.rules import Rule
from cutsagain.shifting import put_in, shifted

from tests.plain import LENGTHS, NO_TEXTS, all_texts, many_rules, some_rules, told
from tests.plain_pairs import plain_put_in, plain_shifted, short_put_in, with_stands

ONES = Rule(2, 1, ((1,),), 1, None)
SHORT = Rule(2, 1, ((1,),), 2, 3)

NO_NUMBERS = (None, True, False, -1, "0", "", (), (0,), [], [0], {}, {0: 0}, 400, 1 << 70)


class ShiftedTest(unittest.TestCase):
    def test_examples_by_hand(self):
        self.assertEqual(shifted(ONES, (0, 1, 0), 1, 1), 1)
        self.assertEqual(shifted(ONES, (0, 1, 0), 1, 0), 0)
        self.assertEqual(shifted(SHORT, (0,) * 6, 0, 0), 4)
        # Cuts ahead of the place count for nothing, nor does the one at the place itself.
        self.assertEqual(shifted(ONES, (1, 1, 1), 3, 0), 0)
        self.assertEqual(shifted(ONES, (1, 1, 1), 3, 1), 1)
        # A word that is broken by the sign, and one that it makes.
        pair = Rule(2, 2, ((0, 1),), 1, None)
        self.assertEqual(shifted(pair, (0, 1), 1, 1), 2)
        self.assertEqual(shifted(pair, (0, 1), 1, 0), 0)
        self.assertEqual(shifted(Rule(2, 2, ((0, 0),), 1, None), (0, 0), 1, 1), 1)
        self.assertEqual(shifted(Rule(2, 2, ((1, 1),), 1, None), (0, 1), 1, 1), 1)

    def test_the_first_and_the_last_place(self):
        self.assertEqual([shifted(ONES, (), 0, sign) for sign in (0, 1)], [0, 1])
        self.assertEqual([shifted(SHORT, (), 0, sign) for sign in (0, 1)], [0, 0])
        self.assertEqual([shifted(SHORT, (0,), place, 1) for place in (0, 1)], [0, 1])
        self.assertEqual([shifted(SHORT, (1, 1, 1), 0, sign) for sign in (0, 1)], [3, 3])
        self.assertEqual([shifted(SHORT, (1, 1, 1), 3, sign) for sign in (0, 1)], [0, 1])

    def test_no_words(self):
        for signs, window in product((2, 3), (1, 2, 3)):
            rule = Rule(signs, window, (), 1, None)
            self.assertEqual({shifted(rule, (0, 1) * 5, place, 1) for place in range(11)}, {0})
            # All further cuts come one place early, and one more is behind the last place.
            rule = Rule(signs, window, (), 2, 4)
            self.assertEqual(shifted(rule, (0,) * 11, 0, 1), 5)
            self.assertEqual(shifted(rule, (0,) * 11, 3, 1), 5)
            self.assertEqual(shifted(rule, (0,) * 11, 4, 1), 3)

    def test_against_all_short_texts(self):
        rules = (some_rules(2, 1, LENGTHS[::4]) + some_rules(2, 2, LENGTHS[::9], 3) + some_rules(2, 3, [(2, 4)], 40)
                 + some_rules(3, 1, LENGTHS[::12]) + some_rules(3, 2, [(1, None), (2, 3)], 170))
        for rule in rules:
            for text in all_texts(rule.signs, 6 if rule.signs == 2 else 3)[::3]:
                for place, sign in product(range(len(text) + 1), range(rule.signs)):
                    self.assertEqual(shifted(rule, text, place, sign), plain_shifted(rule, text, place, sign),
                                     (told(rule), text, place, sign))

    def test_a_text_of_399_signs(self):
        for place, sign, expected in ((0, 1, 1), (399, 1, 1), (200, 0, 0)):
            self.assertEqual(shifted(ONES, (0, 1, 1) * 133, place, sign), expected)
        self.assertEqual(shifted(SHORT, (0,) * 399, 0, 0), 266)
        for value in ((0,) * 400, (1,) * 400):
            for place, sign in ((0, 0), (400, 1), (None, None)):
                with self.assertRaises(BadText):
                    shifted(ONES, value, place, sign)

    def test_no_texts(self):
        for value in NO_TEXTS + ((0,) * 400,):
            for place, sign in ((0, 0), (None, 0), (0, None), (True, False), (401, 2)):
                with self.assertRaises(BadText):
                    shifted(ONES, value, place, sign)

    def test_no_places(self):
        for value in NO_NUMBERS + (4,):
            for sign in (0, 1, None, True, 2):
                with self.assertRaises(BadNumber):
                    shifted(ONES, (0, 1, 1), value, sign)
        with self.assertRaises(BadNumber):
            shifted(ONES, (), 1, 0)
        self.assertEqual([shifted(ONES, (0, 1, 1), place, 1) for place in range(4)], [1] * 4)

    def test_no_signs(self):
        for value in NO_NUMBERS + (2,):
            for place in (0, 3):
                with self.assertRaises(BadNumber):
                    shifted(ONES, (0, 1, 1), place, value)
        three = Rule(3, 1, ((2,),), 1, None)
        self.assertEqual([shifted(three, (0, 1, 2), 1, sign) for sign in (0, 1, 2)], [0, 0, 1])
        with self.assertRaises(BadNumber):
            shifted(three, (0, 1, 2), 1, 3)


class PutInTest(unittest.TestCase):
    def test_examples_by_hand(self):
        self.assertEqual(put_in(ONES), 1)
        self.assertIsNone(put_in(SHORT))
        self.assertEqual(put_in(Rule(2, 1, (), 6, None)), 0)
        # Each sign that is put in brings a cut, and moves no other one.
        self.assertEqual(put_in(Rule(2, 1, ((0,), (1,)), 1, None)), 1)
        self.assertIsNone(put_in(Rule(2, 1, ((0,), (1,)), 2, None)))
        # A 0 that is put in among 1s takes the cuts behind the next two of them.
        self.assertEqual(put_in(Rule(2, 3, ((1, 1, 1),), 1, None)), 2)

    def test_against_rounds_of_further_signs(self):
        found = []
        for rule in many_rules()[::2]:
            with self.subTest(rule=told(rule)):
                found.append(put_in(rule))
                self.assertEqual(found[-1], plain_put_in(rule))
        self.assertGreaterEqual(len(set(found)), 5)

    def test_against_all_short_texts(self):
        # Behind as many signs as meets, all texts with one sign more are cut alike.
        for rule in (some_rules(2, 1, LENGTHS) + some_rules(2, 2, [(1, None), (2, None), (3, None)])
                     + some_rules(2, 3, [(1, None)], 9) + some_rules(3, 2, [(1, None)], 40)):
            bound = meets(rule)
            if bound is not None and bound < 5:
                texts = list(with_stands(rule).values())
                self.assertEqual(put_in(rule), short_put_in(rule, texts, bound + 1), told(rule))

    def test_no_text_costs_more(self):
        for rule in some_rules(2, 1, LENGTHS[::5]) + some_rules(2, 2, LENGTHS[::10], 3) + some_rules(3, 1, [(1, None)]):
            greatest = put_in(rule)
            if greatest is not None:
                for text in all_texts(rule.signs, 6)[::5]:
                    for place, sign in product(range(len(text) + 1), range(rule.signs)):
                        self.assertLessEqual(shifted(rule, text, place, sign), greatest)

    def test_costs_without_end(self):
        for rule in (SHORT, Rule(2, 1, (), 1, 2), Rule(3, 2, ((0, 0),), 2, None), Rule(2, 1, ((0,),), 6, 8)):
            self.assertIsNone(put_in(rule))
            costs = [shifted(rule, (0,) * many, 0, 0) for many in (20, 50, 100, 399)]
            self.assertEqual(costs, sorted(set(costs)))

    def test_rules_of_the_most_stands(self):
        every = list(product(range(3), repeat=3))
        for first, step in ((0, 1), (1, 2), (2, 5), (26, 1)):
            words = tuple(every[at] for at in range(first, 27, step))
            for least, most in ((6, 8), (1, None), (3, None)):
                rule = Rule(3, 3, words, least, most)
                bound, greatest = meets(rule), put_in(rule)
                with self.subTest(rule=told(rule)):
                    if bound is not None:
                        self.assertLessEqual(greatest, bound + 1)


class CallsTest(unittest.TestCase):
    def test_calls_repeat_and_change_nothing(self):
        text = (0, 1, 1, 0)
        for rule in (ONES, SHORT, Rule(3, 2, ((0, 0), (1, 2)), 3, None)):
            before = told(rule)
            first = (put_in(rule), shifted(rule, text, 2, 1))
            self.assertEqual((put_in(rule), shifted(rule, text, 2, 1)), first)
            self.assertEqual((told(rule), text), (before, (0, 1, 1, 0)))

    def test_kinds_of_values(self):
        self.assertIs(type(put_in(ONES)), int)
        self.assertIs(type(put_in(Rule(2, 1, (), 1, None))), int)
        self.assertIs(type(shifted(ONES, (1,), 0, 1)), int)
        self.assertIs(type(shifted(ONES, (1,), 0, 0)), int)


if __name__ == "__main__":
    unittest.main()
