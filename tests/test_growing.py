import unittest

from cutsagain.growing import is_ring, longest, ring
from cutsagain.rules import Rule

from tests.plain import LENGTHS, all_texts, grows_for_ever, plain_is_ring, plain_longest, some_rules, told

ONES = Rule(2, 1, ((1,),), 1, None)
SHORT = Rule(2, 1, ((1,),), 2, 3)


class LongestTest(unittest.TestCase):
    def assert_longest(self, rule, expected):
        self.assertEqual(longest(rule), expected)
        self.assertIsNone(ring(rule))

    def test_with_a_most(self):
        self.assert_longest(SHORT, (3, (0, 0, 0)))
        self.assert_longest(Rule(2, 1, (), 1, 8), (8, (0,) * 8))
        self.assert_longest(Rule(2, 1, ((0,),), 1, 4), (4, (1, 1, 1, 0)))
        self.assert_longest(Rule(3, 2, (), 6, 6), (6, (0,) * 6))

    def test_with_a_most_that_is_not_reached(self):
        self.assert_longest(Rule(2, 1, ((0,), (1,)), 1, 8), (1, (0,)))
        self.assert_longest(Rule(2, 1, ((0,), (1,)), 4, 8), (4, (0,) * 4))
        self.assert_longest(Rule(2, 2, ((0, 0), (1, 0), (1, 1)), 1, 8), (3, (0, 1, 0)))

    def test_without_a_most(self):
        self.assert_longest(Rule(2, 2, ((0, 0), (0, 1), (1, 1)), 1, None), (3, (1, 0, 0)))
        self.assert_longest(Rule(2, 2, ((0, 0), (0, 1), (1, 1)), 6, None), (7, (0, 0, 0, 0, 1, 0, 0)))
        self.assert_longest(Rule(3, 1, ((0,), (1,), (2,)), 2, None), (2, (0, 0)))
        self.assertIsNone(longest(ONES))
        self.assertIsNone(longest(Rule(2, 1, ((1,),), 6, None)))

    def test_without_words(self):
        for signs, window in ((2, 1), (2, 2), (2, 3), (3, 1), (3, 2), (3, 3)):
            for least, most in LENGTHS:
                rule = Rule(signs, window, (), least, most)
                if most is None:
                    self.assertIsNone(longest(rule))
                    self.assertTrue(is_ring(rule, ring(rule)))
                else:
                    self.assert_longest(rule, (most, (0,) * most))

    def test_every_sign_cuts(self):
        for signs, window in ((2, 1), (2, 2), (2, 3), (3, 1), (3, 2), (3, 3)):
            every = tuple(word for word in all_texts(signs, window) if len(word) == window)
            for least, most in LENGTHS:
                # The first piece lasts until the window is full, and by least alone from then on.
                length = max(least, window)
                if most is not None:
                    length = min(length, most)
                self.assert_longest(Rule(signs, window, every, least, most), (length, (0,) * length))

    def test_pieces_longer_than_any_most(self):
        # All words cut but those of one way through the windows, on which no window comes twice.
        way = (0, 0, 1, 0, 2, 1, 1, 2, 2)
        kept = [way[at:at + 3] for at in range(len(way) - 2)]
        words = tuple(word for word in all_texts(3, 3)[-27:] if word not in kept)
        self.assert_longest(Rule(3, 3, words, 1, None), (10, way + (0,)))
        # With a greater least, the way begins where the piece is long enough.
        self.assert_longest(Rule(3, 3, words, 6, None), (13, (0, 0, 0) + way + (0,)))

    def hold_against_a_plain_search(self, rules, limit):
        for rule in rules:
            with self.subTest(rule=told(rule)):
                if grows_for_ever(rule):
                    self.assertIsNone(longest(rule))
                else:
                    self.assertEqual(longest(rule), plain_longest(rule, limit))

    def test_all_rules_of_two_signs_and_windows_to_two(self):
        self.hold_against_a_plain_search(some_rules(2, 1, LENGTHS), 9)
        self.hold_against_a_plain_search(some_rules(2, 2, LENGTHS), 9)

    def test_rules_of_two_signs_and_window_three(self):
        self.hold_against_a_plain_search(some_rules(2, 3, [(1, None), (2, None), (4, None)]), 9)
        self.hold_against_a_plain_search(some_rules(2, 3, [(1, 3), (2, 2), (2, 7), (3, 6)], 7), 8)

    def test_rules_of_three_signs(self):
        self.hold_against_a_plain_search(some_rules(3, 1, [(1, None), (3, None), (1, 1), (1, 4), (2, 6)]), 6)
        self.hold_against_a_plain_search(some_rules(3, 2, [(1, None), (2, 4)], 11), 7)

    def test_rules_of_three_signs_and_window_three(self):
        every = all_texts(3, 3)[-27:]
        for step in range(2, 9):
            words = tuple(word for at, word in enumerate(every, start=1) if at % step)
            rules = [Rule(3, 3, words, *lengths) for lengths in ((1, None), (2, None), (1, 2), (1, 6), (3, 5))]
            self.hold_against_a_plain_search(rules, 8)
        words = tuple(word for word in every if word not in ((0, 0, 1), (0, 1, 2), (1, 2, 2)))
        self.assert_longest(Rule(3, 3, words, 1, None), (6, (0, 0, 1, 2, 2, 0)))
        self.hold_against_a_plain_search([Rule(3, 3, words, 1, None), Rule(3, 3, words, 1, 4)], 7)


class RingTest(unittest.TestCase):
    def test_a_ring_is_there_just_if_pieces_grow_for_ever(self):
        rules = (some_rules(2, 1, LENGTHS) + some_rules(2, 2, LENGTHS) + some_rules(2, 3, LENGTHS[::4], 3)
                 + some_rules(3, 1, LENGTHS) + some_rules(3, 2, LENGTHS[::8], 7))
        for rule in rules:
            found = ring(rule)
            with self.subTest(rule=told(rule)):
                self.assertEqual(found is not None, grows_for_ever(rule))
                self.assertEqual(longest(rule) is None, found is not None)
                if found is not None:
                    self.assertIs(is_ring(rule, found), True)
                    self.assertTrue(plain_is_ring(rule, *found))

    def test_rings_of_three_signs_and_window_three(self):
        every = all_texts(3, 3)[-27:]
        for word in every:
            rest = tuple(other for other in every if other != word)
            rule = Rule(3, 3, rest, 1, None)
            # One word that does not cut closes a ring just if it is one sign throughout.
            self.assertEqual(ring(rule) is not None, word[0] == word[1] == word[2])
            self.assertTrue(ring(rule) is None or is_ring(rule, ring(rule)))

    def test_rings_of_several_signs(self):
        rule = Rule(2, 2, ((0, 0), (1, 1)), 3, None)
        text, signs = ring(rule)
        self.assertTrue(plain_is_ring(rule, text, signs))
        self.assertEqual(len(signs) % 2, 0)

    def test_no_ring_with_a_most(self):
        for rule in some_rules(2, 2, [pair for pair in LENGTHS if pair[1] is not None]):
            self.assertIsNone(ring(rule))


class IsRingTest(unittest.TestCase):
    def test_all_short_tuples(self):
        lengths = [(1, None), (2, None), (3, None), (1, 2), (2, 4)]
        rules = some_rules(2, 1, lengths) + some_rules(2, 2, lengths) + some_rules(2, 3, lengths, 51)
        for rule in rules:
            for text in all_texts(2, 4):
                for signs in all_texts(2, 3):
                    self.assertIs(is_ring(rule, (text, signs)), plain_is_ring(rule, text, signs),
                                  (told(rule), text, signs))

    def test_no_signs(self):
        self.assertIs(is_ring(ONES, ((0,), (0,))), True)
        self.assertIs(is_ring(ONES, ((0,), ())), False)
        self.assertIs(is_ring(ONES, ((), ())), False)

    def test_a_cut_on_the_way(self):
        self.assertIs(is_ring(ONES, ((1,), (1,))), False)
        self.assertIs(is_ring(ONES, ((0,), (1, 0))), False)
        self.assertIs(is_ring(Rule(2, 2, ((1, 1),), 1, None), ((0, 1), (0, 1))), True)
        self.assertIs(is_ring(Rule(2, 2, ((1, 1),), 1, None), ((0, 1), (1, 0, 1))), False)

    def test_cuts_ahead_are_nothing_to_it(self):
        self.assertIs(is_ring(ONES, ((1, 1, 0), (0, 0))), True)
        self.assertIs(is_ring(ONES, ((0, 1), (0,))), False)

    def test_another_stand_behind(self):
        self.assertIs(is_ring(ONES, ((), (0,))), False)
        two = Rule(2, 2, (), 1, None)
        self.assertIs(is_ring(two, ((0,), (0,))), False)
        self.assertIs(is_ring(two, ((0, 0), (0,))), True)
        self.assertIs(is_ring(two, ((0, 0), (1,))), False)
        self.assertIs(is_ring(two, ((0, 0), (1, 0, 0))), True)

    def test_lengths_ahead_of_least_are_unlike(self):
        self.assertIs(is_ring(Rule(2, 1, (), 3, None), ((0, 0), (0,))), False)
        self.assertIs(is_ring(Rule(2, 1, (), 3, None), ((0, 0, 0), (0,))), True)

    def test_lengths_with_a_most_are_unlike(self):
        rule = Rule(2, 1, (), 1, 8)
        self.assertIs(is_ring(rule, ((0,) * 3, (0,))), False)
        self.assertIs(is_ring(rule, ((0,) * 3, (0,) * 8)), False)

    def test_long_tuples(self):
        self.assertIs(is_ring(ONES, ((0,) * 1000, (0,) * 2000)), True)
        self.assertIs(is_ring(ONES, ((1,) * 1000 + (0,), (0,) * 401)), True)
        self.assertIs(is_ring(ONES, ((0,) * 1000, (0,) * 2000 + (1,) + (0,) * 9)), False)
        self.assertIs(is_ring(ONES, ((0,) * 1000 + (1,), (0,) * 2000)), False)
        self.assertIs(is_ring(ONES, ((0,) * 1000 + (2,) + (0,), (0,))), False)

    def test_values_of_any_kind(self):
        for value in (None, True, False, 0, 1, -1, "", "00", (), [], {}, {0: 0}, ((0,),), ((0,), (0,), (0,)),
                      [(0,), (0,)], {(0,): (0,)}, ([0], (0,)), ((0,), [0]), ("0", "0"), "ab", ((0,), 0), (0, (0,)),
                      (0, 0), ((0,), None), (None, (0,)), ((0,), (2,)), ((2, 0), (0,)), ((-1, 0), (0,)),
                      ((0,), (False,)), ((False,), (0,)), ((0,), ("0",)), ((None, 0), (0,)), (((0,),), (0,)),
                      ((0,), ((0,),)), ([], []), ({}, {}), ((0,), {0: 0}), ((0,), ([],)), (True, True)):
            self.assertIs(is_ring(ONES, value), False, value)

    def test_signs_hang_on_the_rule(self):
        self.assertIs(is_ring(Rule(3, 1, ((1,),), 1, None), ((2,), (2,))), True)
        self.assertIs(is_ring(ONES, ((2,), (2,))), False)


class CallsTest(unittest.TestCase):
    def test_calls_repeat_and_change_nothing(self):
        for rule in (ONES, SHORT, Rule(2, 2, ((0, 0), (1, 1)), 3, None)):
            before = told(rule)
            first = (longest(rule), ring(rule), is_ring(rule, ((0,), (0,))))
            self.assertEqual((longest(rule), ring(rule), is_ring(rule, ((0,), (0,)))), first)
            self.assertEqual(told(rule), before)

    def test_values_stay_as_they_are(self):
        value = ([0], [0])
        self.assertFalse(is_ring(ONES, value))
        self.assertEqual(value, ([0], [0]))


if __name__ == "__main__":
    unittest.main()
