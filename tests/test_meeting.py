import unittest
from itertools import product

from cutsagain.errors import BadText
from cutsagain.meeting import apart, differences, for_ever, is_for_ever, meets, together
from cutsagain.rules import Rule, cuts

from tests.plain import LENGTHS, NO_TEXTS, all_texts, many_rules, plain_cuts, plain_stand, some_rules, told
from tests.plain_pairs import plain_differences, plain_is_for_ever, plain_meets, short_differences, with_stands

ONES = Rule(2, 1, ((1,),), 1, None)
SHORT = Rule(2, 1, ((1,),), 2, 3)


def few_rules():
    """Rules of all numbers of signs and all windows, with and without a most."""
    return (some_rules(2, 1, LENGTHS[::3]) + some_rules(2, 2, LENGTHS[::9]) + some_rules(2, 3, [(1, None), (2, 3)], 40)
            + some_rules(3, 1, LENGTHS[::10]) + some_rules(3, 2, [(1, None), (2, None), (1, 3)], 120))


def greatest_rules():
    """Rules with the most stands that there are."""
    every = list(product(range(3), repeat=3))
    return [Rule(3, 3, tuple(every[at] for at in range(first, 27, step)), least, most)
            for first, step in ((0, 1), (1, 2), (2, 5), (26, 1)) for least, most in ((1, 8), (6, 8), (3, None))]


class TogetherTest(unittest.TestCase):
    def test_examples_by_hand(self):
        self.assertIs(together(ONES, (0, 1), (1, 1, 1)), True)
        self.assertIs(together(ONES, (), ()), True)
        # The empty text has no last sign, and one sign fills the window.
        self.assertIs(together(ONES, (), (1,)), False)
        self.assertIs(together(Rule(2, 2, (), 1, None), (0,), (0, 0)), False)
        self.assertIs(together(Rule(2, 2, (), 1, None), (0, 0), (1, 0, 0)), True)

    def test_lengths_of_least_and_more_are_the_same_without_a_most(self):
        free = Rule(2, 1, ((1,),), 3, None)
        self.assertIs(together(free, (0,) * 3, (0,) * 9), True)
        self.assertIs(together(free, (0,) * 2, (0,) * 3), False)
        self.assertIs(together(Rule(2, 1, ((1,),), 3, 8), (0,) * 3, (0,) * 4), False)
        self.assertIs(together(Rule(2, 1, ((1,),), 3, 8), (0,) * 3, (0,) * 11), True)

    def test_against_plain_stands(self):
        for rule in few_rules():
            texts = all_texts(rule.signs, 4 if rule.signs == 2 else 3)
            stands = {text: plain_stand(rule, text) for text in texts}
            for one, other in product(texts, repeat=2):
                self.assertIs(together(rule, one, other), stands[one] == stands[other], (told(rule), one, other))

    def test_together_are_cut_alike_ever_after(self):
        for rule in (SHORT, Rule(2, 2, ((0, 1),), 2, 4), Rule(2, 2, ((0, 1), (1, 1)), 3, None)):
            texts = all_texts(2, 5)
            for one, other in product(texts, repeat=2):
                if together(rule, one, other):
                    for signs in all_texts(2, 4)[-16:]:
                        self.assertEqual([place - len(one) for place in cuts(rule, one + signs) if place > len(one)],
                                         [place - len(other) for place in cuts(rule, other + signs)
                                          if place > len(other)])

    def test_long_texts(self):
        self.assertIs(together(SHORT, (0,) * 399, (0,) * 396), True)
        self.assertIs(together(SHORT, (0,) * 400, (0,) * 399), False)

    def test_no_texts(self):
        for value in NO_TEXTS:
            for one, other in ((value, ()), ((), value), (value, value)):
                with self.assertRaises(BadText):
                    together(ONES, one, other)
        self.assertIs(together(Rule(3, 1, (), 1, None), (2,), (2,)), True)


class ApartTest(unittest.TestCase):
    def test_examples_by_hand(self):
        self.assertEqual(apart(ONES, (0, 1, 0), (0, 1, 1)), 1)
        self.assertEqual(apart(ONES, (), ()), 0)
        self.assertEqual(apart(ONES, (), (1, 1, 1)), 3)
        self.assertEqual(apart(ONES, (1, 0, 1, 0), (0, 1, 0, 1)), 4)
        self.assertEqual(apart(SHORT, (0,) * 9, (1,) * 9), 5)

    def test_against_plain_cuts(self):
        for rule in few_rules():
            texts = all_texts(rule.signs, 4 if rule.signs == 2 else 3)
            places = {text: set(plain_cuts(rule, text)) for text in texts}
            for one, other in product(texts, repeat=2):
                self.assertEqual(apart(rule, one, other), len(places[one] ^ places[other]))

    def test_long_texts(self):
        self.assertEqual(apart(ONES, (1,) * 400, (0,) * 400), 400)

    def test_no_texts(self):
        for value in NO_TEXTS:
            for one, other in ((value, ()), ((), value), (value, value)):
                with self.assertRaises(BadText):
                    apart(ONES, one, other)


class MeetsTest(unittest.TestCase):
    def hold(self, rule, limit):
        found = meets(rule)
        with self.subTest(rule=told(rule)):
            self.assertEqual(found, plain_meets(rule, limit if found is None else found + 2))
            stay = for_ever(rule)
            self.assertEqual(stay is None, found is not None)
            if stay is not None:
                self.assertIs(is_for_ever(rule, stay), True)
                self.assertTrue(plain_is_for_ever(rule, *stay))

    def test_examples_by_hand(self):
        self.assertEqual(meets(ONES), 0)
        self.assertIsNone(for_ever(ONES))
        self.assertIsNone(meets(SHORT))
        # A least of 2: behind a cut and not behind a cut, (1,) cuts in one of both alone.
        self.assertIsNone(meets(Rule(2, 1, ((1,),), 2, None)))
        self.assertEqual(meets(Rule(2, 3, ((1, 1, 1),), 1, None)), 2)

    def test_for_ever_needs_unlike_lengths_that_come_back(self):
        one, other, signs = for_ever(Rule(2, 1, (), 1, 2))
        self.assertEqual(len(signs) % 2, 0)
        self.assertNotEqual(len(one) % 2, len(other) % 2)

    def test_one_window(self):
        for rule in some_rules(2, 1, LENGTHS):
            self.hold(rule, 5)

    def test_two_signs(self):
        for rule in some_rules(2, 2, LENGTHS[::4]) + some_rules(2, 3, [(1, None), (2, None), (1, 2), (2, 5)], 23):
            self.hold(rule, 4)

    def test_three_signs(self):
        for rule in some_rules(3, 1, LENGTHS[::5]) + some_rules(3, 2, [(1, None), (2, None), (1, 4)], 60):
            self.hold(rule, 3)

    def test_rules_of_the_most_stands(self):
        for rule in greatest_rules():
            with self.subTest(rule=told(rule)):
                found, stay, cost = meets(rule), for_ever(rule), differences(rule)
                self.assertEqual(stay is None, found is not None)
                if stay is not None:
                    self.assertIs(is_for_ever(rule, stay), True)
                    self.assertTrue(plain_is_for_ever(rule, *stay))
                else:
                    self.assertLessEqual(cost, found + 1)


class IsForEverTest(unittest.TestCase):
    def test_all_short_tuples(self):
        rules = (some_rules(2, 1, [(1, None), (2, None), (1, 2), (2, 3)])
                 + some_rules(2, 2, [(2, None), (1, 2)], 5))
        for rule in rules:
            texts, followed = all_texts(2, 3), all_texts(2, 4)
            behind = {text: plain_stand(rule, text) for text in all_texts(2, 7)}
            for one, other, signs in product(texts, texts, followed):
                expected = (bool(signs) and behind[one] != behind[other] and behind[one + signs] == behind[one]
                            and behind[other + signs] == behind[other])
                self.assertIs(is_for_ever(rule, (one, other, signs)), expected, (told(rule), one, other, signs))

    def test_no_signs(self):
        self.assertIs(is_for_ever(SHORT, ((0, 0, 0), (0,), (0, 0, 0))), True)
        self.assertIs(is_for_ever(SHORT, ((0, 0, 0), (0,), ())), False)
        self.assertIs(is_for_ever(SHORT, ((), (), ())), False)

    def test_alike_stands(self):
        self.assertIs(is_for_ever(SHORT, ((0,), (0,), (0, 0, 0))), False)
        self.assertIs(is_for_ever(SHORT, ((0, 0, 0, 0), (0,), (0, 0, 0))), False)

    def test_stands_that_do_not_come_back(self):
        self.assertIs(is_for_ever(SHORT, ((), (0,), (0, 0, 0))), False)
        self.assertIs(is_for_ever(SHORT, ((0,), (), (0, 0, 0))), False)
        self.assertIs(is_for_ever(SHORT, ((0, 0, 0), (0,), (0, 0))), False)
        self.assertIs(is_for_ever(SHORT, ((0, 0, 0), (0,), (0, 0, 0, 0))), False)

    def test_stands_that_change_places(self):
        two = Rule(2, 1, (), 1, 2)
        self.assertIs(is_for_ever(two, ((0,), (0, 0), (0,))), False)
        self.assertIs(is_for_ever(two, ((0,), (0, 0), (0, 0))), True)

    def test_long_tuples(self):
        self.assertIs(is_for_ever(SHORT, ((0,) * 3000, (0,) * 1000, (0,) * 600)), True)
        self.assertIs(is_for_ever(SHORT, ((0,) * 3000, (0,) * 1000, (0,) * 601)), False)
        self.assertIs(is_for_ever(SHORT, ((0,) * 3000, (0,) * 1002, (0,) * 600)), False)

    def test_values_of_any_kind(self):
        zero, long = (0,), (0, 0, 0)
        for value in (None, True, False, 0, 3, "", "000", (), [], {}, (zero,), (long, zero), (long, zero, long, long),
                      [long, zero, long], {long: 0, zero: 0, (): 0}, ([0, 0, 0], zero, long), (long, [0], long),
                      (long, zero, [0, 0, 0]), (0, zero, long), (long, 0, long), (long, zero, 3), (None, zero, long),
                      (long, None, long), (long, zero, None), (True, False, True), ("000", "0", "000"),
                      ((0, 0, False), zero, long), (long, (False,), long), (long, zero, (0, 0, False)),
                      ((2, 0, 0), zero, long), (long, (-1, 0, 0, 0), long), (long, zero, (0, 2, 0)),
                      ((0, 0, None), zero, long), (long, ("0",), long), (long, zero, ((0,), 0, 0)), ({}, {}, {}),
                      ([], [], []), (long, zero, "000"), (long, zero, {0: 0})):
            self.assertIs(is_for_ever(SHORT, value), False, value)

    def test_signs_hang_on_the_rule(self):
        three = Rule(3, 1, ((1,),), 2, 3)
        self.assertIs(is_for_ever(three, ((2,) * 3, (2,), (2,) * 3)), True)
        self.assertIs(is_for_ever(SHORT, ((2,) * 3, (2,), (2,) * 3)), False)


class DifferencesTest(unittest.TestCase):
    def test_examples_by_hand(self):
        self.assertEqual(differences(ONES), 1)
        self.assertIsNone(differences(SHORT))
        # Every sign cuts, whatever it is.
        self.assertEqual(differences(Rule(2, 1, ((0,), (1,)), 1, None)), 0)
        # No sign that is changed moves a cut here, although stands stay apart.
        self.assertEqual(differences(Rule(2, 1, (), 1, 3)), 0)
        self.assertIsNone(meets(Rule(2, 1, (), 1, 3)))
        self.assertEqual(differences(Rule(2, 3, ((1, 1, 1),), 1, None)), 3)

    def test_against_rounds_of_further_signs(self):
        found = []
        for rule in many_rules():
            with self.subTest(rule=told(rule)):
                found.append(differences(rule))
                self.assertEqual(found[-1], plain_differences(rule))
        self.assertGreaterEqual(len(set(found)), 5)

    def test_against_all_short_texts(self):
        for rule in few_rules():
            texts = list(with_stands(rule).values())[::3]
            short, cost = short_differences(rule, texts, 3), differences(rule)
            self.assertTrue(cost is None or short <= cost, told(rule))
        for rule in some_rules(2, 2, [(1, None)]):
            # Behind two equal signs both texts are alike.
            self.assertEqual(differences(rule), short_differences(rule, all_texts(2, 3), 3), told(rule))

    def test_meets_bounds_it(self):
        for rule in some_rules(2, 1, LENGTHS) + some_rules(2, 2, LENGTHS[::3]) + some_rules(2, 3, [(1, None)], 3):
            bound = meets(rule)
            if bound is not None:
                self.assertLessEqual(differences(rule), bound + 1, told(rule))


class CallsTest(unittest.TestCase):
    def test_calls_repeat_and_change_nothing(self):
        for rule in (ONES, SHORT, Rule(3, 2, ((0, 0), (1, 2)), 3, None)):
            before = told(rule)
            first = (meets(rule), differences(rule), for_ever(rule), together(rule, (0,), (1, 0)),
                     apart(rule, (0, 1), (1, 1)))
            self.assertEqual((meets(rule), differences(rule), for_ever(rule), together(rule, (0,), (1, 0)),
                              apart(rule, (0, 1), (1, 1))), first)
            self.assertEqual(told(rule), before)

    def test_kinds_of_values(self):
        self.assertIs(type(meets(ONES)), int)
        self.assertIs(type(differences(ONES)), int)
        self.assertIs(type(differences(Rule(2, 1, ((0,), (1,)), 1, None))), int)
        self.assertIs(type(apart(ONES, (1,), (0,))), int)

    def test_values_stay_as_they_are(self):
        value = ([0], [0], [0])
        self.assertFalse(is_for_ever(ONES, value))
        self.assertEqual(value, ([0], [0], [0]))


if __name__ == "__main__":
    unittest.main()
