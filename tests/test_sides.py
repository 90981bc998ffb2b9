import unittest
from itertools import product

from cutsagain.errors import BadNumber, TooMany, Unlike
from cutsagain.growing import longest
from cutsagain.rules import Rule, cuts
from cutsagain.sides import alike, fewest_words, needless, parting

from tests.plain import LENGTHS, some_rules, told
from tests.plain_pairs import plain_fewest, plain_needless, plain_parting

ONES = Rule(2, 1, ((1,),), 1, None)
TWO = tuple(product(range(2), repeat=2))
NINE = tuple(product(range(3), repeat=2))
NO_NUMBERS = (None, True, False, "1", "", (), (1,), [1], [], {}, {1: 1}, -1)


class PartingTest(unittest.TestCase):
    def test_examples_by_hand(self):
        self.assertEqual(parting(ONES, Rule(2, 1, ((1,),), 2, None)), (1,))
        self.assertEqual(parting(ONES, Rule(2, 1, ((0,),), 1, None)), (0,))
        self.assertEqual(parting(ONES, Rule(2, 1, ((1,),), 1, 5)), (0,) * 5)
        self.assertEqual(parting(ONES, Rule(2, 2, ((0, 1), (1, 1)), 1, None)), (1,))
        self.assertEqual(parting(Rule(2, 1, (), 1, 7), Rule(2, 1, (), 1, 8)), (0,) * 7)
        self.assertIsNone(parting(Rule(2, 1, (), 1, 7), Rule(2, 1, (), 6, 7)))
        self.assertIsNone(parting(Rule(2, 1, (), 1, None), Rule(2, 3, (), 6, None)))

    def test_shorter_texts_come_ahead_of_lesser_ones(self):
        # (1,) parts them ahead of (0, 0), although it is greater.
        self.assertEqual(parting(Rule(2, 1, ((1,),), 1, 2), Rule(2, 1, (), 1, None)), (1,))
        # Of the texts of two signs that part them, (0, 1) is the least.
        self.assertEqual(parting(Rule(2, 2, ((0, 1), (1, 0)), 1, None), Rule(2, 2, (), 1, None)), (0, 1))

    def test_texts_with_many_cuts(self):
        # Behind a cut of both, a word (1, 1) over the cut counts again.
        one, other = Rule(2, 2, ((1, 1),), 2, None), Rule(2, 2, ((1, 1),), 2, 8)
        self.assertEqual(parting(one, other), (0,) * 8)
        one, other = Rule(2, 3, ((1, 1, 1),), 1, None), Rule(2, 3, ((1, 1, 1),), 2, None)
        self.assertEqual(parting(one, other), (1, 1, 1, 1))

    def test_longer_than_every_piece(self):
        # Each cuts behind 6 signs; the longer window is full only then.
        words = tuple(product(range(2), repeat=3))
        self.assertIsNone(parting(Rule(2, 3, words, 6, None), Rule(2, 1, ((0,), (1,)), 6, None)))
        one, other = Rule(3, 3, ((0, 1, 2),), 6, 8), Rule(3, 3, ((0, 1, 2), (2, 1, 0)), 6, 8)
        self.assertEqual(parting(one, other), (0, 0, 0, 2, 1, 0))

    def test_all_pairs_of_rules_against_all_short_texts(self):
        rules = (some_rules(2, 1, [(1, None), (2, None), (1, 2), (2, 3), (3, 3)])
                 + some_rules(2, 2, [(1, None), (2, 4)], 3))
        for one, other in product(rules, repeat=2):
            found = parting(one, other)
            self.assertEqual(found, plain_parting(one, other, 7), (told(one), told(other)))
            self.assertIs(alike(one, other), found is None)

    def test_rules_of_longer_windows(self):
        rules = some_rules(2, 3, [(1, None), (3, 4)], 37) + some_rules(2, 2, [(1, None), (3, 4)], 5)
        for one, other in product(rules[::2], rules[1::2]):
            self.assertEqual(parting(one, other), plain_parting(one, other, 8), (told(one), told(other)))

    def test_rules_of_three_signs(self):
        rules = some_rules(3, 1, [(1, None), (1, 3), (2, 3)], 2) + some_rules(3, 2, [(1, None), (2, 4)], 150)
        for one, other in product(rules, repeat=2):
            self.assertEqual(parting(one, other), plain_parting(one, other, 5), (told(one), told(other)))

    def test_just_one_is_cut_at_the_end(self):
        for one, other in product(some_rules(2, 2, [(6, None), (6, 8), (5, 8)], 4), repeat=2):
            text = parting(one, other)
            if text is not None:
                self.assertEqual(cuts(one, text[:-1]), cuts(other, text[:-1]))
                self.assertEqual(len(set(cuts(one, text)) ^ set(cuts(other, text))), 1)

    def test_alike_rules_need_not_be_equal(self):
        one, other = Rule(2, 1, ((0,), (1,)), 2, None), Rule(2, 1, (), 2, 2)
        self.assertNotEqual(one, other)
        self.assertIs(alike(one, other), True)
        self.assertIs(alike(other, one), True)
        self.assertIs(alike(ONES, ONES), True)
        self.assertIs(alike(ONES, other), False)

    def test_unlike_numbers_of_signs(self):
        three = Rule(3, 1, ((1,),), 1, None)
        for one, other in ((ONES, three), (three, ONES), (Rule(2, 1, (), 1, None), Rule(3, 1, (), 1, None))):
            with self.assertRaises(Unlike):
                parting(one, other)
            with self.assertRaises(Unlike):
                alike(one, other)


class NeedlessTest(unittest.TestCase):
    def test_examples_by_hand(self):
        self.assertEqual(needless(Rule(2, 1, ((1,),), 1, 1)), [(1,)])
        self.assertEqual(needless(ONES), [])
        self.assertEqual(needless(Rule(2, 1, (), 1, None)), [])
        self.assertEqual(needless(Rule(2, 2, TWO, 3, 3)), list(TWO))
        # Each word stands at the end of some text whose cut no other one brings.
        self.assertEqual(needless(Rule(2, 2, TWO, 1, None)), [])

    def test_each_alone(self):
        # Pieces have two signs, whatever the words are; but without all three of them this is so, too.
        rule = Rule(2, 2, ((0, 0), (0, 1), (1, 1)), 2, 2)
        self.assertEqual(needless(rule), [(0, 0), (0, 1), (1, 1)])

    def test_all_words_or_none(self):
        # At the first place where words decide any word can stand; there is none just if least is most.
        for rule in some_rules(2, 2, LENGTHS, 3) + some_rules(2, 3, LENGTHS[::6], 50) + some_rules(3, 1, LENGTHS, 3):
            self.assertEqual(needless(rule), list(rule.words) if rule.least == rule.most else [], told(rule))

    def test_against_all_short_texts(self):
        rules = (some_rules(2, 1, LENGTHS[::5]) + some_rules(2, 2, [(1, None), (2, None), (1, 2), (2, 2), (3, 4)])
                 + some_rules(2, 3, [(2, 3), (3, 3)], 40))
        found = 0
        for rule in rules:
            words = needless(rule)
            self.assertEqual(words, plain_needless(rule, 9), told(rule))
            found += bool(words)
        self.assertGreater(found, 10)

    def test_without_it_the_rule_is_alike(self):
        for rule in some_rules(2, 3, [(3, 4), (2, 2)], 31):
            for word in rule.words:
                rest = tuple(other for other in rule.words if other != word)
                fewer = Rule(rule.signs, rule.window, rest, rule.least, rule.most)
                self.assertIs(alike(rule, fewer), word in needless(rule))

    def test_27_words(self):
        every = tuple(product(range(3), repeat=3))
        self.assertEqual(needless(Rule(3, 3, every, 1, None)), [])
        self.assertEqual(needless(Rule(3, 3, every, 1, 1)), list(every))


class FewestWordsTest(unittest.TestCase):
    def test_examples_by_hand(self):
        self.assertEqual(fewest_words(ONES, 2, 1), [((0,),)])
        self.assertEqual(fewest_words(ONES, 2, 0), [])
        self.assertEqual(fewest_words(Rule(2, 1, ((0,), (1,)), 1, None), 1, 0), [()])
        self.assertEqual(fewest_words(Rule(2, 1, ((0,), (1,)), 2, None), 1, 3), [])
        # Pieces of a least of 6 are at least so long.
        self.assertEqual(fewest_words(Rule(2, 1, (), 6, None), 5, 3), [])
        self.assertEqual(fewest_words(Rule(2, 1, (), 6, None), 6, 3), [((0,), (1,))])

    def test_goals(self):
        rule = Rule(2, 1, (), 1, 8)
        self.assertEqual(fewest_words(rule, 1, 3), [((0,), (1,))])
        self.assertEqual(fewest_words(rule, 7, 3), [((0,), (1,))])
        self.assertEqual(fewest_words(rule, 8, 3), [()])
        self.assertEqual(fewest_words(rule, 12, 0), [()])
        self.assertEqual(fewest_words(Rule(2, 1, (), 1, None), 12, 3), [((0,), (1,))])
        self.assertEqual(fewest_words(Rule(2, 1, (), 1, None), 12, 1), [])

    def test_goals_above_every_most(self):
        # All rings are cut by (0, 0), (1, 1) and one of (0, 1), (1, 0): pieces grow beyond a least of 6.
        rule = Rule(2, 2, ((0, 0),), 6, None)
        found = fewest_words(rule, 7, 3)
        self.assertEqual(found, [((0, 1), (1, 1)), ((1, 0), (1, 1))])
        self.assertEqual(fewest_words(rule, 12, 3), found)
        self.assertEqual(fewest_words(rule, 6, 3), [((0, 1), (1, 0), (1, 1))])

    def test_most(self):
        rule = Rule(2, 2, (), 1, None)
        self.assertEqual(fewest_words(rule, 3, 2), [])
        self.assertEqual(fewest_words(rule, 3, 3), [((0, 0), (0, 1), (1, 1)), ((0, 0), (1, 0), (1, 1))])
        # All four words were needed.
        self.assertEqual(fewest_words(rule, 2, 3), [])
        # No words are left to put to it.
        self.assertEqual(fewest_words(Rule(2, 2, TWO, 3, None), 2, 3), [])

    def test_against_all_sets_of_words(self):
        rules = (some_rules(2, 1, [(1, None), (3, None), (2, 4)]) + some_rules(2, 2, [(1, None), (2, 5)], 2)
                 + some_rules(3, 1, [(1, None), (1, 5)], 2))
        for rule in rules:
            for goal in (1, 2, 3, 4, 5):
                for most in range(4):
                    self.assertEqual(fewest_words(rule, goal, most), plain_fewest(rule, goal, most, 6),
                                     (told(rule), goal, most))

    def test_eight_and_nine_words(self):
        # Of nine words three are missing; without a most each ring must be cut.
        words = tuple(word for word in NINE if word not in ((0, 0), (1, 1), (2, 2)))
        self.assertEqual(fewest_words(Rule(3, 2, words, 1, None), 12, 3), [((0, 0), (1, 1), (2, 2))])
        self.assertEqual(fewest_words(Rule(3, 2, words, 1, None), 12, 2), [])
        every = tuple(product(range(2), repeat=3))
        words = tuple(word for word in every if len(set(word)) > 1)
        self.assertEqual(fewest_words(Rule(2, 3, words, 1, None), 3, 3), [((0, 0, 0), (1, 1, 1))])

    def test_each_set_found_keeps_pieces_short(self):
        for rule in some_rules(2, 3, [(1, None), (2, 6)], 60):
            for goal in (3, 6, 12):
                for words in fewest_words(rule, goal, 3):
                    self.assertEqual(words, tuple(sorted(words)))
                    whole = Rule(2, 3, tuple(sorted(rule.words + words)), rule.least, rule.most)
                    self.assertLessEqual(longest(whole)[0], goal)

    def test_too_many_words(self):
        every = tuple(product(range(3), repeat=3))
        for words in ((), every):
            for goal, most in ((1, 0), (None, None), (13, 4), (12, True)):
                # That of the rule comes ahead of those of the numbers.
                with self.assertRaises(TooMany):
                    fewest_words(Rule(3, 3, words, 1, None), goal, most)
        for signs, window in ((2, 1), (2, 2), (2, 3), (3, 1), (3, 2)):
            self.assertEqual(fewest_words(Rule(signs, window, (), 1, 3), 3, 0), [()])

    def test_no_numbers(self):
        for value in NO_NUMBERS + (0, 13, 100):
            with self.assertRaises(BadNumber):
                fewest_words(ONES, value, 1)
        for value in NO_NUMBERS + (4, 100):
            with self.assertRaises(BadNumber):
                fewest_words(ONES, 2, value)
        for goal in (1, 12):
            for most in (0, 3):
                self.assertIsInstance(fewest_words(ONES, goal, most), list)
        # Wrong numbers are told of, however short the pieces are already.
        with self.assertRaises(BadNumber):
            fewest_words(Rule(2, 1, (), 1, 1), 1, 4)


class CallsTest(unittest.TestCase):
    def test_calls_repeat_and_change_nothing(self):
        one, other = Rule(2, 2, ((0, 1), (1, 1)), 2, 3), Rule(2, 1, ((1,),), 2, 3)
        before = told(one), told(other)
        first = (parting(one, other), alike(one, other), needless(one), fewest_words(one, 2, 3))
        first[2].append("more")
        first[3].append("more")
        again = (parting(one, other), alike(one, other), needless(one), fewest_words(one, 2, 3))
        self.assertEqual((again[0], again[1], again[2] + ["more"], again[3] + ["more"]), first)
        self.assertEqual((told(one), told(other)), before)


if __name__ == "__main__":
    unittest.main()
