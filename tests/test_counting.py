import unittest
from fractions import Fraction
from itertools import product

from cutsagain.counting import cut_counts, first_cuts, mean_first
from cutsagain.errors import BadNumber
from cutsagain.rules import Rule

from tests.plain import LENGTHS, plain_cuts, some_rules, told

ONES = Rule(2, 1, ((1,),), 1, None)
SHORT = Rule(2, 1, ((1,),), 2, 3)
NO_PLACES = (None, True, False, -1, 31, 400, "1", "", (), (1,), [1], [], {}, {1: 1})


def some():
    return (some_rules(2, 1, LENGTHS[::4]) + some_rules(2, 2, LENGTHS[::11]) + some_rules(2, 3, [(1, None), (2, 4)], 30)
            + some_rules(3, 1, LENGTHS[::8], 2) + some_rules(3, 2, [(1, None), (2, 3)], 100))


def places_of(rule):
    """The places of the cuts of all texts of a few signs."""
    return [plain_cuts(rule, text) for text in product(range(rule.signs), repeat=7 if rule.signs == 2 else 5)]


class FirstCutsTest(unittest.TestCase):
    def test_examples_by_hand(self):
        self.assertEqual(first_cuts(ONES, 3), [0, 1, 1, 1])
        self.assertEqual(first_cuts(SHORT, 5), [0, 0, 2, 4, 0, 0])
        self.assertEqual(first_cuts(Rule(2, 2, ((1, 1),), 1, None), 6), [0, 0, 1, 1, 2, 3, 5])

    def test_no_places(self):
        self.assertEqual(first_cuts(ONES, 0), [0])
        self.assertEqual(first_cuts(Rule(3, 1, (), 1, 1), 0), [0])

    def test_thirty_places(self):
        self.assertEqual(first_cuts(ONES, 30), [0] + [1] * 30)
        self.assertEqual(first_cuts(Rule(3, 1, ((0,),), 1, None), 30), [0] + [2 ** at for at in range(30)])
        self.assertEqual(first_cuts(Rule(3, 3, (), 1, None), 30), [0] * 31)
        self.assertEqual(first_cuts(Rule(3, 3, (), 1, 8), 30), [0] * 8 + [3 ** 8] + [0] * 22)

    def test_against_all_texts(self):
        for rule in some():
            places = places_of(rule)
            longest = 7 if rule.signs == 2 else 5
            # Each text with a first cut at its end begins as many longer ones as there are.
            expected = [sum(found[:1] == [many] for found in places) // rule.signs ** (longest - many)
                        for many in range(longest + 1)]
            self.assertEqual(first_cuts(rule, longest), expected, told(rule))
            self.assertEqual(first_cuts(rule, 3), expected[:4], told(rule))

    def test_no_numbers_of_places(self):
        for value in NO_PLACES:
            with self.assertRaises(BadNumber):
                first_cuts(ONES, value)


class CutCountsTest(unittest.TestCase):
    def test_examples_by_hand(self):
        self.assertEqual(cut_counts(ONES, 2), [1, 2, 1])
        self.assertEqual(cut_counts(SHORT, 2), [2, 2])
        self.assertEqual(cut_counts(SHORT, 4), [0, 12, 4])

    def test_no_places(self):
        self.assertEqual(cut_counts(ONES, 0), [1])
        self.assertEqual(cut_counts(Rule(2, 1, (), 1, 1), 0), [1])

    def test_thirty_places(self):
        row = [1]
        for _ in range(30):
            row = [one + other for one, other in zip([0] + row, row + [0])]
        self.assertEqual(cut_counts(ONES, 30), row)
        self.assertEqual(cut_counts(Rule(3, 3, (), 1, None), 30), [3 ** 30])

    def test_numbers_of_cuts_that_no_text_has(self):
        self.assertEqual(cut_counts(Rule(2, 1, (), 1, 1), 3), [0, 0, 0, 8])
        self.assertEqual(cut_counts(Rule(3, 1, (), 2, 2), 5), [0, 0, 243])

    def test_against_all_texts(self):
        for rule in some():
            places = places_of(rule)
            longest = 7 if rule.signs == 2 else 5
            counts = [len(found) for found in places]
            self.assertEqual(cut_counts(rule, longest), [counts.count(many) for many in range(max(counts) + 1)],
                             told(rule))

    def test_they_add_up_to_all_texts(self):
        for rule in some():
            for places in (0, 1, 2, 9, 30):
                counts = cut_counts(rule, places)
                self.assertEqual(sum(counts), rule.signs ** places)
                self.assertGreater(counts[-1], 0)
                # Texts without a cut are those that have none as their first one.
                whole = [many * rule.signs ** (places - at) for at, many in enumerate(first_cuts(rule, places))]
                self.assertEqual(counts[0], rule.signs ** places - sum(whole))

    def test_no_numbers_of_places(self):
        for value in NO_PLACES:
            with self.assertRaises(BadNumber):
                cut_counts(ONES, value)


class MeanFirstTest(unittest.TestCase):
    def test_examples_by_hand(self):
        self.assertEqual(mean_first(SHORT), (5, 2))
        self.assertEqual(mean_first(Rule(2, 1, ((1,),), 1, 3)), (7, 4))
        self.assertEqual(mean_first(Rule(3, 1, ((1,),), 1, 2)), (5, 3))

    def test_whole_numbers(self):
        for most in range(1, 9):
            self.assertEqual(mean_first(Rule(3, 2, (), 1, most)), (most, 1))
            self.assertEqual(mean_first(Rule(2, 1, ((0,), (1,)), 1, most)), (1, 1))

    def test_without_a_most(self):
        for words in ((), ((1,),), ((0,), (1,))):
            self.assertIsNone(mean_first(Rule(2, 1, words, 1, None)))
            self.assertIsNone(mean_first(Rule(2, 1, words, 6, None)))

    def test_against_all_texts(self):
        lengths = [(1, 1), (1, 2), (2, 3), (1, 5), (3, 6)]
        rules = (some_rules(2, 1, lengths + [(1, 8), (6, 8)]) + some_rules(2, 2, lengths, 3)
                 + some_rules(2, 3, [(1, 5), (4, 6)], 30) + some_rules(3, 1, lengths) + some_rules(3, 2, lengths, 200))
        for rule in rules:
            firsts = [plain_cuts(rule, text)[0] for text in product(range(rule.signs), repeat=rule.most)]
            mean = Fraction(sum(firsts), len(firsts))
            self.assertEqual(mean_first(rule), (mean.numerator, mean.denominator), told(rule))


class CallsTest(unittest.TestCase):
    def test_lists_are_new(self):
        for rule in (ONES, SHORT):
            before = told(rule)
            for count in (first_cuts, cut_counts):
                first = count(rule, 5)
                kept = list(first)
                first.append(7)
                self.assertEqual(count(rule, 5), kept)
            self.assertEqual(mean_first(rule), mean_first(rule))
            self.assertEqual(told(rule), before)

    def test_values_stay_as_they_are(self):
        value = [1]
        with self.assertRaises(BadNumber):
            first_cuts(ONES, value)
        self.assertEqual(value, [1])


if __name__ == "__main__":
    unittest.main()
