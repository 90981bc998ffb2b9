import unittest
from fractions import Fraction
from math import gcd

from cutsagain.counting import cut_counts, mean_first
from cutsagain.errors import TooMany
from cutsagain.growing import longest
from cutsagain.lots import long_run, visits
from cutsagain.rules import Rule
from cutsagain.shares import piece_shares, share

from tests.plain import LENGTHS, plain_stand, some_rules, told
from tests.plain_runs import plain_lot, plain_moves, plain_piece_shares, plain_share, true_stand

ONES = Rule(2, 1, ((1,),), 1, None)
SHORT = Rule(2, 1, ((1,),), 2, 3)

# Rules by how many stands come again and again: with lengths from least on counted as the same, and with true ones.
FORTY = Rule(2, 3, (), 1, 5)
FORTY_WITH_WORDS = Rule(2, 3, ((0, 0, 1), (1, 0, 0)), 2, 6)
ONE_MORE = Rule(2, 3, ((0, 1, 1), (1, 1, 1)), 2, 7)
ONE_MORE_BY_LENGTHS = Rule(2, 3, ((0, 0, 0), (0, 0, 1), (1, 0, 1), (1, 1, 1)), 5, None)


def few_rules():
    return (some_rules(2, 1, LENGTHS) + some_rules(2, 2, LENGTHS[::4], 2) + some_rules(2, 3, LENGTHS[::5], 60)
            + some_rules(3, 1, LENGTHS[::3]) + some_rules(3, 2, LENGTHS[::16], 170))


def stands_that_come(rule, stand_of):
    return len(plain_lot(plain_moves(rule, stand_of)))


class ShareTest(unittest.TestCase):
    def test_examples_by_hand(self):
        self.assertEqual(share(ONES), (1, 2))
        self.assertEqual(share(SHORT), (2, 5))
        self.assertEqual(share(Rule(3, 1, (), 1, 3)), (1, 3))
        self.assertEqual(share(Rule(3, 1, ((0,), (2,)), 1, None)), (2, 3))
        # Two words of four, at each place that is one behind another.
        self.assertEqual(share(Rule(2, 2, ((0, 1), (1, 1)), 1, None)), (1, 2))
        self.assertEqual(share(Rule(2, 3, ((0, 1, 1),), 1, None)), (1, 8))

    def test_a_share_of_0_and_of_1(self):
        for least in range(1, 7):
            self.assertEqual(share(Rule(2, 1, (), least, None)), (0, 1))
        self.assertEqual(share(Rule(2, 1, (), 1, 1)), (1, 1))
        self.assertEqual(share(Rule(3, 1, ((0,), (1,), (2,)), 1, None)), (1, 1))

    def test_cuts_that_come_once_do_not_count(self):
        # The first piece is 3 long, until the window is full, and all others 2.
        self.assertEqual(share(some_rules(2, 3, [(2, None)])[-1]), (1, 2))

    def test_against_the_shares_of_all_stands(self):
        for rule in few_rules():
            with self.subTest(rule=told(rule)):
                try:
                    found = share(rule)
                except TooMany:
                    self.assertGreater(stands_that_come(rule, plain_stand), 40)
                    continue
                self.assertEqual(Fraction(*found), plain_share(rule))
                self.assertEqual(gcd(*found), 1)

    def test_against_all_texts_of_30_signs(self):
        for rule in few_rules()[::3]:
            try:
                found = share(rule)
            except TooMany:
                continue
            mean = Fraction(sum(cuts * many for cuts, many in enumerate(cut_counts(rule, 30))), rule.signs ** 30)
            # What is one place off at the begin and at the end has no end that grows with the text.
            self.assertLessEqual(abs(mean - 30 * Fraction(*found)), 2, told(rule))

    def test_against_first_pieces(self):
        # With a window of 1, all pieces are as the first one.
        for rule in some_rules(2, 1, LENGTHS) + some_rules(3, 1, LENGTHS):
            if rule.most is not None:
                numerator, denominator = mean_first(rule)
                self.assertEqual(share(rule), (denominator, numerator), told(rule))

    def test_bounds(self):
        for rule in few_rules():
            try:
                found = Fraction(*share(rule))
            except TooMany:
                continue
            self.assertLessEqual(found, Fraction(1, rule.least))
            if rule.most is not None:
                self.assertGreaterEqual(found, Fraction(1, rule.most))

    def test_kinds_of_values(self):
        for rule in (ONES, SHORT, Rule(2, 1, (), 1, None), Rule(2, 1, (), 1, 1)):
            self.assertIs(type(share(rule)), tuple)
            self.assertEqual([type(number) for number in share(rule)], [int, int])


class PieceSharesTest(unittest.TestCase):
    def test_examples_by_hand(self):
        self.assertIsNone(piece_shares(ONES))
        self.assertEqual(piece_shares(SHORT), [(2, 1, 2), (3, 1, 2)])
        self.assertEqual(piece_shares(Rule(3, 1, (), 1, 3)), [(3, 1, 1)])
        self.assertEqual(piece_shares(Rule(2, 1, ((1,),), 1, 4)), [(1, 1, 2), (2, 1, 4), (3, 1, 8), (4, 1, 8)])
        self.assertEqual(piece_shares(Rule(3, 1, ((1,),), 1, 3)), [(1, 1, 3), (2, 2, 9), (3, 4, 9)])

    def test_lengths_that_do_not_come_in_the_long_run(self):
        # The first piece alone is 3 long.
        rule = some_rules(2, 3, [(2, None)])[-1]
        self.assertEqual(longest(rule)[0], 3)
        self.assertEqual(piece_shares(rule), [(2, 1, 1)])

    def test_lengths_between_that_do_not_come(self):
        # Behind a cut, only 0 0 1 and 1 0 1 do not cut at once, and 0 1 0 and 0 1 1, which come next, do not either.
        rule = Rule(2, 3, ((0, 0, 0), (1, 0, 0), (1, 1, 0), (1, 1, 1)), 1, 4)
        self.assertEqual(piece_shares(rule), [(1, 7, 11), (3, 3, 11), (4, 1, 11)])

    def test_without_a_most(self):
        # 1 can come for ever without a cut.
        self.assertIsNone(piece_shares(Rule(2, 2, ((0, 0), (0, 1), (1, 0)), 3, None)))
        # Only 1 0 does not cut, and what comes next does.
        rule = Rule(2, 2, ((0, 0), (0, 1), (1, 1)), 1, None)
        self.assertEqual(piece_shares(rule), [(1, 2, 3), (2, 1, 3)])
        rule = Rule(2, 2, ((0, 0), (0, 1), (1, 1)), 3, None)
        self.assertEqual([length for length, _, _ in piece_shares(rule)], [3, 4])

    def test_none_just_if_pieces_have_no_greatest_length(self):
        for rule in few_rules():
            try:
                self.assertEqual(piece_shares(rule) is None, longest(rule) is None, told(rule))
            except TooMany:
                self.assertIsNotNone(longest(rule))

    def test_against_the_shares_of_all_stands(self):
        for rule in few_rules():
            if longest(rule) is None:
                continue
            with self.subTest(rule=told(rule)):
                try:
                    found = piece_shares(rule)
                except TooMany:
                    self.assertGreater(stands_that_come(rule, true_stand), 40)
                    continue
                self.assertEqual([(length, Fraction(*parts)) for length, *parts in found],
                                 list(plain_piece_shares(rule).items()))
                self.assertEqual([gcd(*parts) for _, *parts in found], [1] * len(found))

    def test_they_add_up_to_1_and_so_does_their_mean_by_share(self):
        for rule in few_rules():
            try:
                found, places = piece_shares(rule), share(rule)
            except TooMany:
                continue
            if found is not None:
                self.assertEqual(sum(Fraction(*parts) for _, *parts in found), 1)
                self.assertEqual(sum(length * Fraction(*parts) for length, *parts in found) * Fraction(*places), 1)
                for length, _, _ in found:
                    self.assertTrue(rule.least <= length <= longest(rule)[0])

    def test_lists_are_new(self):
        piece_shares(SHORT).append("more")
        self.assertEqual(piece_shares(SHORT), [(2, 1, 2), (3, 1, 2)])


class TooManyTest(unittest.TestCase):
    def test_forty_stands(self):
        for rule in (FORTY, FORTY_WITH_WORDS):
            self.assertEqual(stands_that_come(rule, plain_stand), 40)
            self.assertEqual(stands_that_come(rule, true_stand), 40)
        self.assertEqual((share(FORTY), piece_shares(FORTY)), ((1, 5), [(5, 1, 1)]))
        self.assertEqual(Fraction(*share(FORTY_WITH_WORDS)), plain_share(FORTY_WITH_WORDS))
        self.assertEqual(piece_shares(FORTY_WITH_WORDS),
                         [(2, 1, 4), (3, 47, 240), (4, 1, 8), (5, 3, 32), (6, 161, 480)])

    def test_one_stand_more(self):
        self.assertEqual(stands_that_come(ONE_MORE, plain_stand), 41)
        for question in (share, piece_shares):
            with self.assertRaises(TooMany):
                question(ONE_MORE)

    def test_true_lengths_can_be_more(self):
        self.assertEqual(stands_that_come(ONE_MORE_BY_LENGTHS, plain_stand), 38)
        self.assertEqual(stands_that_come(ONE_MORE_BY_LENGTHS, true_stand), 41)
        self.assertEqual(Fraction(*share(ONE_MORE_BY_LENGTHS)), plain_share(ONE_MORE_BY_LENGTHS))
        with self.assertRaises(TooMany):
            piece_shares(ONE_MORE_BY_LENGTHS)

    def test_stands_that_do_not_come_again_do_not_count(self):
        # 39 stands come again and again, and 13 more behind short texts alone.
        rule = Rule(3, 3, ((0, 1, 2),), 3, None)
        self.assertEqual(len(plain_moves(rule)) - stands_that_come(rule, plain_stand), 13)
        self.assertEqual(Fraction(*share(rule)), plain_share(rule))

    def test_pieces_without_end_come_ahead_of_too_many(self):
        rule = Rule(3, 3, ((0, 1, 2),), 6, None)
        with self.assertRaises(TooMany):
            share(rule)
        self.assertIsNone(piece_shares(rule))

    def test_the_greatest_rules(self):
        for least, most in ((1, 8), (6, 8), (6, 6)):
            for question in (share, piece_shares):
                with self.assertRaises(TooMany):
                    question(Rule(3, 3, (), least, most))
        self.assertEqual(share(Rule(3, 3, (), 1, 1)), (1, 1))
        self.assertEqual(share(Rule(3, 3, (), 6, None)), (0, 1))


class SureTest(unittest.TestCase):
    """No rule has two lots of stands: all stands read one sign again and again into the same ring."""

    def test_all_rules_are_sure(self):
        for rule in few_rules():
            self.assertTrue(plain_lot(plain_moves(rule)), told(rule))

    def test_two_lots_are_not_sure(self):
        one, other = [(0, True), (0, False)], [(1, True), (1, True)]
        self.assertIsNone(long_run([one, other]))
        self.assertIsNone(long_run([[(1, False), (2, False)], [(1, True), (1, False)], [(2, True), (2, True)]]))
        # More than 40 stands each: there is no one lot to be too great.
        rows = [[(at + 1 if at % 50 < 49 else at - 49, False)] * 2 for at in range(100)]
        self.assertIsNone(long_run(rows))
        with self.assertRaises(TooMany):
            long_run(rows[:50])

    def test_one_lot_is_sure(self):
        self.assertEqual(long_run([[(1, False), (2, False)], [(2, True), (2, False)], [(1, True), (2, True)]]),
                         {1: 1, 2: 2})
        self.assertEqual(long_run([[(0, True), (0, False)]]), {0: 1})

    def test_visits_are_in_least_numbers(self):
        self.assertEqual(visits([[0, 2], [1, 1]]), [1, 2])
        self.assertEqual(visits([[2]]), [1])
        # Each state is left for another one half of the time alone.
        self.assertEqual(visits([[1, 1, 0], [0, 1, 1], [1, 0, 1]]), [1, 1, 1])
        rates = [[0, 1, 1], [2, 0, 0], [1, 1, 0]]
        self.assertEqual(visits(rates), [4, 3, 2])
        self.assertEqual(rates, [[0, 1, 1], [2, 0, 0], [1, 1, 0]])


if __name__ == "__main__":
    unittest.main()
