import unittest
from itertools import product

from cutsagain.errors import BadText
from cutsagain.meeting import for_ever, meets, together
from cutsagain.resets import is_never, least_reset, never, resets
from cutsagain.rules import Rule

from tests.plain import LENGTHS, NO_TEXTS, all_texts, plain_stand, some_rules, told
from tests.plain_pairs import with_stands
from tests.plain_runs import plain_least_reset, plain_resets, plain_together

ONES = Rule(2, 1, ((1,),), 1, None)
SHORT = Rule(2, 1, ((1,),), 2, 3)
THREE = Rule(2, 1, (), 1, 3)


def few_rules():
    """Rules of all numbers of signs and all windows, with some signs that bring all together and without."""
    return (some_rules(2, 1, LENGTHS[::2]) + some_rules(2, 2, [(1, None), (2, None), (1, 3), (2, 4)], 2)
            + some_rules(2, 3, [(1, None), (2, 3)], 50) + some_rules(3, 1, [(1, None), (2, None), (1, 3)])
            + some_rules(3, 2, [(1, None), (2, 3)], 170))


class ResetsTest(unittest.TestCase):
    def test_examples_by_hand(self):
        self.assertIs(resets(ONES, (0,)), True)
        self.assertIs(resets(SHORT, (1, 0, 1)), True)
        self.assertIs(resets(SHORT, (1, 0)), False)
        self.assertIs(resets(SHORT, (1, 1)), False)
        self.assertIs(resets(THREE, (0,) * 9), False)
        # The window is not full behind the empty text and one sign.
        self.assertIs(resets(Rule(2, 2, (), 1, None), (0,)), False)
        self.assertIs(resets(Rule(2, 2, (), 1, None), (0, 1)), True)

    def test_empty_signs(self):
        # The empty text has no last sign, every other text has one.
        for rule in few_rules():
            self.assertIs(resets(rule, ()), False)

    def test_against_all_short_signs(self):
        for rule in few_rules():
            texts, found = with_stands(rule).values(), []
            for signs in all_texts(rule.signs, 5 if rule.signs == 2 else 3):
                expected = plain_resets(rule, texts, signs)
                self.assertIs(resets(rule, signs), expected, (told(rule), signs))
                if expected:
                    found.append(signs)
            if found:
                self.assertEqual(least_reset(rule), found[0], told(rule))

    def test_what_resets_does_so_within_longer_signs(self):
        for rule in (ONES, SHORT, Rule(2, 2, ((0, 1),), 2, 4)):
            reset = least_reset(rule)
            for ahead, behind in product(all_texts(2, 3), repeat=2):
                self.assertIs(resets(rule, ahead + reset + behind), True)

    def test_all_texts_are_together_behind_them(self):
        for ahead in product(all_texts(2, 5), repeat=2):
            self.assertIs(together(SHORT, ahead[0] + (1, 0, 1), ahead[1] + (1, 0, 1)), True)

    def test_a_text_of_400_signs(self):
        self.assertIs(resets(ONES, (0,) * 400), True)
        self.assertIs(resets(SHORT, (0,) * 400), False)
        self.assertIs(resets(SHORT, (0,) * 397 + (1, 0, 1)), True)

    def test_no_texts(self):
        for value in NO_TEXTS:
            with self.assertRaises(BadText):
                resets(ONES, value)
        self.assertIs(resets(Rule(3, 1, (), 1, None), (2,)), True)


class LeastResetTest(unittest.TestCase):
    def test_examples_by_hand(self):
        self.assertEqual(least_reset(ONES), (0,))
        self.assertEqual(least_reset(SHORT), (1, 0, 1))
        self.assertIsNone(least_reset(THREE))
        self.assertEqual(least_reset(Rule(2, 3, (), 2, None)), (0, 0, 0))
        self.assertEqual(least_reset(Rule(2, 1, (), 5, None)), (0,) * 5)

    def test_against_what_is_left_of_all_stands(self):
        for rule in few_rules() + some_rules(3, 1, LENGTHS, 3):
            self.assertEqual(least_reset(rule), plain_least_reset(rule), told(rule))

    def test_long_resets(self):
        for least, many in ((2, 3), (3, 7), (4, 13), (5, 21), (6, 31)):
            rule = Rule(2, 1, ((1,),), least, least + 1)
            found = least_reset(rule)
            self.assertEqual(len(found), many)
            self.assertIs(resets(rule, found), True)
            self.assertEqual(found, plain_least_reset(rule))
            for at in range(many):
                self.assertIs(resets(rule, found[:at] + found[at + 1:]), False)

    def test_three_signs_and_window_three(self):
        every = list(product(range(3), repeat=3))
        for first, step in ((0, 1), (1, 2), (2, 5), (26, 1)):
            for least, most in ((1, 8), (6, 8), (3, None)):
                rule = Rule(3, 3, tuple(every[at] for at in range(first, 27, step)), least, most)
                found, stay = least_reset(rule), never(rule)
                with self.subTest(rule=told(rule)):
                    self.assertEqual(found is None, stay is not None)
                    if found is None:
                        self.assertIs(is_never(rule, stay), True)
                    else:
                        self.assertIs(resets(rule, found), True)
                        self.assertIs(any(resets(rule, found[:many] + found[many + 1:]) for many in range(len(found))),
                                      False)

    def test_long_signs_are_resets_where_meets_ends(self):
        for rule in few_rules():
            bound = meets(rule)
            if bound is not None:
                self.assertLessEqual(len(least_reset(rule)), bound + 1)
                self.assertIsNone(never(rule))


class NeverTest(unittest.TestCase):
    def test_just_if_there_is_no_reset(self):
        found = []
        for rule in few_rules() + some_rules(2, 2, LENGTHS):
            value = never(rule)
            with self.subTest(rule=told(rule)):
                self.assertEqual(value is None, least_reset(rule) is not None)
                found.append((value is None, for_ever(rule) is None))
                if value is not None:
                    self.assertIs(is_never(rule, value), True)
                    # What no signs bring together stays apart by some.
                    self.assertIsNotNone(for_ever(rule))
        self.assertEqual(set(found), {(True, True), (True, False), (False, False)})

    def test_texts_of_it(self):
        one, other = never(THREE)
        self.assertNotEqual(len(one) % 3, len(other) % 3)
        self.assertIsNone(never(ONES))
        self.assertIsNone(never(SHORT))

    def test_signs_that_stay_apart_can_bring_together_by_others(self):
        self.assertIsNone(meets(SHORT))
        self.assertIs(is_never(SHORT, for_ever(SHORT)[:2]), False)


class IsNeverTest(unittest.TestCase):
    def test_all_short_texts(self):
        for rule in few_rules()[::3]:
            stands, pairs = with_stands(rule), plain_together(rule)
            texts = all_texts(rule.signs, 4 if rule.signs == 2 else 2)[::2]
            behind = {text: stands[plain_stand(rule, text)] for text in texts}
            for one, other in product(texts, repeat=2):
                self.assertIs(is_never(rule, (one, other)), (behind[one], behind[other]) not in pairs,
                              (told(rule), one, other))

    def test_texts_with_the_same_stand(self):
        self.assertIs(is_never(THREE, ((0,), (0,))), False)
        self.assertIs(is_never(THREE, ((), ())), False)
        self.assertIs(is_never(THREE, ((0, 0), (0,) * 5)), False)
        # Unlike stands, that each sign brings together.
        self.assertIs(is_never(THREE, ((), (0, 0, 0))), False)
        self.assertIs(is_never(THREE, ((0,), (1,))), False)

    def test_long_tuples(self):
        self.assertIs(is_never(THREE, ((0,) * 3000, (1,) * 1000)), True)
        self.assertIs(is_never(THREE, ((0,) * 3000, (1,) * 1002)), False)
        self.assertIs(is_never(SHORT, ((0,) * 3000, (0,) * 1000)), False)

    def test_values_of_any_kind(self):
        for value in (None, True, False, 0, 1, "", "01", (), ((),), [], [(), (0,)], {}, {(): 0, (0,): 1},
                      ((), (0,), ()), ((), [0]), ([], (0,)), ((), 0), (0, ()), ((), "0"), ("", (0,)), ((), None), (None, (0,)),
                      ((), (2,)), ((), (-1,)), ((), (True,)), ((False,), ()), ((), ("0",)), ((), (None,)),
                      ((), ((0,),)), ((), {0: 0}), ({}, {0: 0}), (True, False), (0, 1), ((), False), "ab",
                      ((2,), ()), ((0, 0, True), (0,))):
            self.assertIs(is_never(THREE, value), False, value)
        self.assertIs(is_never(THREE, ((), (0,))), True)

    def test_signs_hang_on_the_rule(self):
        self.assertIs(is_never(Rule(3, 1, (), 1, 3), ((2,), (2, 2))), True)
        self.assertIs(is_never(THREE, ((2,), (2, 2))), False)

    def test_values_stay_as_they_are(self):
        value = ([], [0])
        self.assertIs(is_never(THREE, value), False)
        self.assertEqual(value, ([], [0]))


if __name__ == "__main__":
    unittest.main()
