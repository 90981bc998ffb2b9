"""More of what can be told by hand of rules of one kind: without words, cut at each sign, by one sign, by all."""

import unittest
from itertools import product
from math import gcd

from cutsagain.both import first_common, longest_common
from cutsagain.kinds import akin, kinds, parted_by
from cutsagain.resets import is_never, least_reset, never, resets
from cutsagain.rules import Rule
from cutsagain.shares import piece_shares, share
from cutsagain.shifting import put_in, shifted

from tests.plain import WINDOWS, all_of, rules_of_one_sign, told


def zeros(many):
    return (0,) * many


def by_lengths_alone():
    """Rules that cut whatever the signs are, with the place of the first cut and how far the others are apart."""
    for signs, window in ((2, 1), (2, 2), (2, 3), (3, 1), (3, 2)):
        for length in (1, 2, 3, 4):
            yield Rule(signs, window, (), 1, length), length, length
            yield Rule(signs, window, all_of(signs, window), length, None), max(length, window), length


class NoWordsTest(unittest.TestCase):
    def each_rule(self, mosts):
        for (signs, window), most in product(WINDOWS, mosts):
            for least in (1, 2, 3, 6):
                if most is None or least <= most:
                    yield Rule(signs, window, (), least, most)

    def test_no_cut_at_all(self):
        for rule in self.each_rule([None]):
            with self.subTest(rule=told(rule)):
                self.assertEqual((share(rule), piece_shares(rule)), ((0, 1), None))
                self.assertEqual(kinds(rule), [()])
                self.assertIs(akin(rule, (), (1, 0, 1)), True)
                self.assertIsNone(parted_by(rule, (), (1, 0, 1)))
                # The empty text is the last one to be as long as least, or to fill the window.
                many = max(rule.least, rule.window)
                self.assertEqual(least_reset(rule), zeros(many))
                self.assertIs(resets(rule, (1,) * many), True)
                self.assertIs(resets(rule, (1,) * (many - 1)), False)
                self.assertIsNone(never(rule))
                self.assertEqual((put_in(rule), shifted(rule, (0, 1, 1), 1, 1)), (0, 0))
                self.assertIsNone(first_common(rule, rule))
                self.assertIsNone(longest_common(rule, rule))

    def test_each_sign_is_cut_by_most(self):
        for rule in self.each_rule([1]):
            with self.subTest(rule=told(rule)):
                self.assertEqual((share(rule), piece_shares(rule)), ((1, 1), [(1, 1, 1)]))
                self.assertEqual(kinds(rule), [()])
                self.assertEqual(least_reset(rule), zeros(rule.window))
                self.assertIsNone(never(rule))
                self.assertEqual((put_in(rule), shifted(rule, (0, 1, 1), 1, 1)), (1, 1))
                self.assertEqual((first_common(rule, rule), longest_common(rule, rule)), ((0,), (1, (0,))))

    def test_all_pieces_as_long_as_most(self):
        for rule in self.each_rule([2, 3, 5, 8]):
            most = rule.most
            few = rule.signs ** rule.window * most <= 40
            with self.subTest(rule=told(rule)):
                if few:
                    self.assertEqual((share(rule), piece_shares(rule)), ((1, most), [(most, 1, 1)]))
                self.assertEqual(kinds(rule), [zeros(many) for many in range(most)])
                self.assertIs(akin(rule, (1,), zeros(most * 3 + 1)), True)
                self.assertIs(akin(rule, (1,), zeros(most * 3)), False)
                self.assertEqual(parted_by(rule, (), (1,)), zeros(most - 1))
                self.assertEqual(parted_by(rule, (0, 0), (1,)), zeros(1 if most == 2 else most - 2))
                self.assertIsNone(least_reset(rule))
                one, other = never(rule)
                self.assertNotEqual(len(one) % most, len(other) % most)
                self.assertIs(is_never(rule, ((), (1,))), True)
                self.assertIs(is_never(rule, ((), zeros(most))), False)
                self.assertIsNone(put_in(rule))
                for text, place in product((zeros(17), (1, 0) * 8), (0, 1, 5, 16)):
                    cost = sum(at % most == 0 or (at + 1) % most == 0 for at in range(place + 1, len(text) + 1))
                    self.assertEqual(shifted(rule, text, place, 1), cost + ((place + 1) % most == 0))


class ByLengthsTest(unittest.TestCase):
    def test_shares(self):
        for rule, _, length in by_lengths_alone():
            with self.subTest(rule=told(rule)):
                if rule.signs ** rule.window * length <= 40:
                    self.assertEqual(share(rule), (1, length))
                    self.assertEqual(piece_shares(rule), [(length, 1, 1)])

    def test_kinds_are_by_the_signs_until_the_next_cut(self):
        for rule, first, length in by_lengths_alone():
            with self.subTest(rule=told(rule)):
                self.assertEqual(kinds(rule), [zeros(many) for many in range(first)])
                left = {many: (first - many if many < first else length - (many - first) % length)
                        for many in range(first + 2 * length)}
                for one, other in product(left, repeat=2):
                    self.assertIs(akin(rule, zeros(one), (1,) * other), left[one] == left[other])
                    self.assertEqual(parted_by(rule, zeros(one), (1,) * other),
                                     None if left[one] == left[other] else zeros(min(left[one], left[other])))

    def test_resets_if_each_sign_cuts_alone(self):
        for rule, _, length in by_lengths_alone():
            with self.subTest(rule=told(rule)):
                self.assertEqual(least_reset(rule), zeros(rule.window) if length == 1 else None)
                self.assertEqual(never(rule) is None, length == 1)
                self.assertEqual(put_in(rule), 1 if length == 1 else None)

    def test_common_cuts(self):
        every = [(rule, first, length) for rule, first, length in by_lengths_alone() if rule.signs == 2]
        for (one, first, length), (other, other_first, other_length) in product(every, repeat=2):
            both = length * other_length // gcd(length, other_length)
            places = [place for place in range(1, 40) if place >= max(first, other_first)
                      and (place - first) % length == 0 and (place - other_first) % other_length == 0]
            with self.subTest(one=told(one), other=told(other)):
                if places:
                    self.assertEqual(first_common(one, other), zeros(places[0]))
                    many = max(places[0], both)
                    self.assertEqual(longest_common(one, other),
                                     (many, zeros(places[0] if many == places[0] else places[0] + both)))
                else:
                    self.assertIsNone(first_common(one, other))
                    self.assertIsNone(longest_common(one, other))


class OneSignTest(unittest.TestCase):
    def test_without_lengths(self):
        for rule, sign, other in rules_of_one_sign(1, None):
            with self.subTest(rule=told(rule)):
                self.assertEqual((share(rule), piece_shares(rule)), ((1, rule.signs), None))
                self.assertEqual(kinds(rule), [()])
                self.assertIs(akin(rule, (sign,), (other,) * 3), True)
                self.assertEqual(least_reset(rule), (0,))
                self.assertIsNone(never(rule))
                self.assertEqual(put_in(rule), 1)
                self.assertEqual([shifted(rule, (sign, other), place, sign) for place in (0, 1, 2)], [1, 1, 1])
                self.assertEqual([shifted(rule, (sign, other), place, other) for place in (0, 1, 2)], [0, 0, 0])
                self.assertEqual((first_common(rule, rule), longest_common(rule, rule)), ((sign,), None))
                rest = Rule(rule.signs, 1, tuple(word for word in all_of(rule.signs, 1) if word != (sign,)), 1, None)
                self.assertIsNone(first_common(rule, rest))
                self.assertIsNone(longest_common(rule, rest))
                threes = Rule(rule.signs, 1, (), 1, 3)
                self.assertEqual((first_common(rule, threes), longest_common(rule, threes)), ((0, 0, sign), None))

    def test_with_a_most(self):
        for rule, sign, other in rules_of_one_sign(1, 4):
            with self.subTest(rule=told(rule)):
                if rule.signs == 2:
                    self.assertEqual(share(rule), (8, 15))
                    self.assertEqual(piece_shares(rule), [(1, 1, 2), (2, 1, 4), (3, 1, 8), (4, 1, 8)])
                else:
                    self.assertEqual(share(rule), (27, 65))
                    self.assertEqual(piece_shares(rule), [(1, 1, 3), (2, 2, 9), (3, 4, 27), (4, 8, 27)])
                self.assertEqual(kinds(rule), [(other,) * many for many in range(4)])
                self.assertEqual(parted_by(rule, (), (other,)), (other,) * 3)
                self.assertIs(akin(rule, (), (sign,)), True)
                # The sign cuts whatever stood ahead.
                self.assertEqual(least_reset(rule), (sign,))
                self.assertIsNone(never(rule))
                self.assertIsNone(put_in(rule))
                self.assertEqual(first_common(rule, rule), (sign,))
                self.assertEqual(longest_common(rule, rule)[0], 4)

    def test_with_a_least(self):
        for rule, sign, other in rules_of_one_sign(3, None):
            with self.subTest(rule=told(rule)):
                # Two signs, and then as many as until the sign comes.
                self.assertEqual((share(rule), piece_shares(rule)), ((1, 2 + rule.signs), None))
                self.assertEqual(kinds(rule), [zeros(many) for many in range(3)])
                self.assertIs(akin(rule, (other,) * 2, (other,) * 7), True)
                self.assertEqual(parted_by(rule, (), (other,)), (0, sign))
                self.assertIsNone(never(rule))
                # Pieces of 3 or more signs that are not the sign stand alike, and so on behind the next cut.
                self.assertIs(resets(rule, (other,) * 5 + (sign,)), True)
                self.assertIsNone(put_in(rule))
                self.assertEqual(first_common(rule, rule), (0, 0, sign))
                self.assertIsNone(longest_common(rule, rule))

    def test_least_is_most(self):
        for rule, _, _ in rules_of_one_sign(3, 3):
            with self.subTest(rule=told(rule)):
                self.assertEqual((share(rule), piece_shares(rule)), ((1, 3), [(3, 1, 1)]))
                self.assertEqual(kinds(rule), [(), (0,), (0, 0)])
                self.assertIsNone(least_reset(rule))
                self.assertIs(is_never(rule, never(rule)), True)
                self.assertIsNone(put_in(rule))
                self.assertEqual(longest_common(rule, Rule(rule.signs, 1, (), 1, 2)), (6, zeros(6)))

    def test_a_run_of_one_sign(self):
        for signs, window in WINDOWS:
            for sign in range(signs):
                rule = Rule(signs, window, ((sign,) * window,), 1, None)
                with self.subTest(rule=told(rule)):
                    self.assertEqual((share(rule), piece_shares(rule)), ((1, signs ** window), None))
                    self.assertEqual(kinds(rule), [(sign,) * many for many in range(window)])
                    self.assertEqual(least_reset(rule), zeros(window))
                    # A sign that is put into a run takes the cuts behind all but one of its windows, or brings one.
                    self.assertEqual(put_in(rule), max(1, window - 1))
                    self.assertEqual(first_common(rule, rule), (sign,) * window)
                    self.assertIsNone(longest_common(rule, rule))


class AllSignsTest(unittest.TestCase):
    def test_each_sign_cuts_by_its_word(self):
        for signs in (2, 3):
            rule = Rule(signs, 1, all_of(signs, 1), 1, None)
            self.assertEqual((share(rule), piece_shares(rule)), ((1, 1), [(1, 1, 1)]))
            self.assertEqual((kinds(rule), least_reset(rule), never(rule)), ([()], (0,), None))
            self.assertEqual((put_in(rule), shifted(rule, (0, 1, 0), 1, 1)), (1, 1))
            self.assertEqual((first_common(rule, rule), longest_common(rule, rule)), ((0,), (1, (0,))))
            self.assertEqual(longest_common(rule, Rule(signs, 1, (), 1, 8)), (8, zeros(8)))
            self.assertIs(akin(rule, (), (1, 0)), True)
            self.assertIsNone(parted_by(rule, (), (1, 0)))


if __name__ == "__main__":
    unittest.main()
