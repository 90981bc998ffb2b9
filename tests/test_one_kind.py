"""Rules of one kind, of which all that is asked can be told by hand: no words, cuts at each sign, one sign's word."""

import unittest

from cutsagain.counting import cut_counts, first_cuts, mean_first
from cutsagain.growing import is_ring, longest, ring
from cutsagain.meeting import differences, for_ever, is_for_ever, meets
from cutsagain.rules import Rule, cuts, pieces
from cutsagain.sides import alike, fewest_words, needless, parting
from cutsagain.told import fitting

from tests.plain import LENGTHS, WINDOWS, all_of, all_texts, rules_of_one_sign


class NoWordsTest(unittest.TestCase):
    def each_rule(self):
        for signs, window in WINDOWS:
            for least, most in LENGTHS[::3] + [(1, 1), (6, None), (6, 8)]:
                yield Rule(signs, window, (), least, most)

    def test_cuts(self):
        for rule in self.each_rule():
            text = (0, 1) * 10
            expected = [] if rule.most is None else list(range(rule.most, 21, rule.most))
            self.assertEqual(cuts(rule, text), expected)
            self.assertEqual(sum(map(len, pieces(rule, text))), 20)

    def test_longest_and_ring(self):
        for rule in self.each_rule():
            if rule.most is None:
                self.assertIsNone(longest(rule))
                self.assertTrue(is_ring(rule, ring(rule)))
            else:
                self.assertEqual(longest(rule), (rule.most, (0,) * rule.most))
                self.assertIsNone(ring(rule))

    def test_meets(self):
        for rule in self.each_rule():
            if rule.most is None:
                # The empty text is the last one to be as long as least, or to fill the window.
                self.assertEqual(meets(rule), max(rule.window, rule.least) - 1)
            elif rule.most == 1:
                self.assertEqual(meets(rule), rule.window - 1)
            else:
                self.assertIsNone(meets(rule))
                self.assertIs(is_for_ever(rule, for_ever(rule)), True)

    def test_differences(self):
        for rule in self.each_rule():
            self.assertEqual(differences(rule), 0)

    def test_first_pieces(self):
        for rule in self.each_rule():
            ended = [0] * 10
            if rule.most is not None:
                ended[rule.most] = rule.signs ** rule.most
            self.assertEqual(first_cuts(rule, 9), ended)
            self.assertEqual(mean_first(rule), None if rule.most is None else (rule.most, 1))
            many = 0 if rule.most is None else 9 // rule.most
            self.assertEqual(cut_counts(rule, 9), [0] * many + [rule.signs ** 9])

    def test_side_by_side(self):
        for rule in self.each_rule():
            self.assertEqual(needless(rule), [])
            # No cut hangs on least or on the window.
            self.assertIs(alike(rule, Rule(rule.signs, 1, (), 1, rule.most)), True)
            if rule.most is None:
                self.assertEqual(parting(rule, Rule(rule.signs, 3, (), 1, 8)), (0,) * 8)
            elif rule.most < 8:
                self.assertEqual(parting(rule, Rule(rule.signs, 3, (), 1, 8)), (0,) * rule.most)

    def test_fitting(self):
        for signs, window in WINDOWS[:-1]:
            every = list(all_of(signs, window))
            # All texts behind which words decide for the first time: none of them is cut.
            seen = tuple((word, ()) for word in every)
            self.assertEqual(fitting(signs, window, 1, None, seen), (1, [], []))
            # Pieces of just one length tell nothing of the words.
            seen = tuple((word * 2, tuple(range(1, 2 * window + 1))) for word in every)
            self.assertEqual(fitting(signs, window, 1, 1, seen), (2 ** len(every), [], every))


class EachSignTest(unittest.TestCase):
    def each_rule(self):
        for signs, window in WINDOWS:
            for words in ((), all_of(signs, window)[1:2], all_of(signs, window)):
                yield Rule(signs, window, words, 1, 1)
        for signs in (2, 3):
            for most in (None, 1, 2, 8):
                yield Rule(signs, 1, all_of(signs, 1), 1, most)

    def test_cuts(self):
        for rule in self.each_rule():
            for text in all_texts(rule.signs, 4):
                self.assertEqual(cuts(rule, text), list(range(1, len(text) + 1)))

    def test_longest_and_ring(self):
        for rule in self.each_rule():
            self.assertEqual(longest(rule), (1, (0,)))
            self.assertIsNone(ring(rule))

    def test_meets_and_differences(self):
        for rule in self.each_rule():
            self.assertEqual(meets(rule), rule.window - 1)
            self.assertIsNone(for_ever(rule))
            self.assertEqual(differences(rule), 0)

    def test_first_pieces(self):
        for rule in self.each_rule():
            self.assertEqual(first_cuts(rule, 4), [0, rule.signs, 0, 0, 0])
            self.assertEqual(mean_first(rule), None if rule.most is None else (1, 1))
            self.assertEqual(cut_counts(rule, 4), [0, 0, 0, 0, rule.signs ** 4])

    def test_side_by_side(self):
        for rule in self.each_rule():
            self.assertEqual(needless(rule), list(rule.words) if rule.most == 1 else [])
            self.assertIs(alike(rule, Rule(rule.signs, 3, (), 1, 1)), True)
            self.assertEqual(parting(rule, Rule(rule.signs, 3, (), 1, 2)), (0,))
            if rule.signs ** rule.window <= 9:
                self.assertEqual(fewest_words(rule, 1, 0), [()])

    def test_fitting(self):
        seen = [((sign,) * 2, (1, 2)) for sign in range(3)]
        self.assertEqual(fitting(3, 1, 1, None, seen), (1, [(0,), (1,), (2,)], [(0,), (1,), (2,)]))
        self.assertEqual(fitting(3, 1, 1, None, seen[1:]), (2, [(1,), (2,)], [(0,), (1,), (2,)]))
        self.assertEqual(fitting(3, 1, 1, 1, seen), (8, [], [(0,), (1,), (2,)]))
        self.assertEqual(fitting(3, 1, 2, None, seen), (0, [], []))


class WindowsTest(unittest.TestCase):
    """All words of a window cut: as soon as it is full, and at each piece of least from then on."""

    def test_first_pieces(self):
        for signs, window in WINDOWS:
            for least in range(1, 7):
                rule = Rule(signs, window, all_of(signs, window), least, None)
                length = max(least, window)
                self.assertEqual(longest(rule), (length, (0,) * length))
                self.assertEqual(cuts(rule, (0,) * 12), list(range(length, 13, least)))
                ended = [0] * 9
                ended[length] = signs ** length
                self.assertEqual(first_cuts(rule, 8), ended)
                self.assertEqual(needless(rule), [])

    def test_meets(self):
        for signs, window in WINDOWS:
            rule = Rule(signs, window, all_of(signs, window), 1, None)
            # The empty text has no cut until its window is full.
            self.assertEqual(meets(rule), window - 1)
            self.assertEqual(differences(rule), 0)
            for least in range(2, 7):
                # Pieces are all as long from then on, so that two texts keep what they are apart.
                rule = Rule(signs, window, all_of(signs, window), least, None)
                self.assertIsNone(meets(rule))
                self.assertIs(is_for_ever(rule, for_ever(rule)), True)
                self.assertEqual(differences(rule), 0)


class OneWordTest(unittest.TestCase):
    def test_without_lengths(self):
        for rule, sign, other in rules_of_one_sign(1, None):
            self.assertEqual(cuts(rule, (sign, other, other, sign, sign)), [1, 4, 5])
            self.assertIsNone(longest(rule))
            self.assertTrue(is_ring(rule, ring(rule)))
            self.assertIs(is_ring(rule, ((other,), (other,))), True)
            self.assertIs(is_ring(rule, ((sign,), (sign,))), False)
            self.assertEqual(meets(rule), 0)
            self.assertIsNone(for_ever(rule))
            self.assertEqual(differences(rule), 1)
            self.assertEqual(first_cuts(rule, 6), [0] + [(rule.signs - 1) ** at for at in range(6)])
            self.assertIsNone(mean_first(rule))
            self.assertEqual(needless(rule), [])
            self.assertEqual(parting(rule, Rule(rule.signs, 1, (), 1, None)), (sign,))
            rest = tuple(word for word in all_of(rule.signs, 1) if word != (sign,))
            self.assertEqual(parting(rule, Rule(rule.signs, 1, rest, 1, None)), (0,))
            self.assertEqual(fewest_words(rule, 12, 3), [rest])

    def test_with_a_most(self):
        for rule, sign, other in rules_of_one_sign(1, 4):
            self.assertEqual(longest(rule)[0], 4)
            self.assertIsNone(ring(rule))
            signs, few = rule.signs, rule.signs - 1
            # A piece ends early with the sign, or with any sign as the fourth one.
            ended = [0, 1, few, few ** 2, few ** 3 * signs, 0]
            self.assertEqual(first_cuts(rule, 5), ended)
            self.assertEqual(mean_first(rule), (15, 8) if signs == 2 else (65, 27))
            self.assertEqual(needless(rule), [])
            # Without the sign, two texts keep what they are apart.
            self.assertIsNone(meets(rule))
            self.assertIs(is_for_ever(rule, ((other,), (other,) * 2, (other,) * 4)), True)
            self.assertIsNone(differences(rule))

    def test_with_a_least(self):
        for rule, sign, other in rules_of_one_sign(3, None):
            self.assertEqual(cuts(rule, (sign,) * 10), [3, 6, 9])
            self.assertEqual(cuts(rule, (other,) * 9 + (sign,) * 3), [10])
            self.assertIs(is_ring(rule, ((other,) * 3, (other,))), True)
            self.assertIs(is_ring(rule, ((other,) * 2, (other,))), False)
            self.assertIsNone(meets(rule))
            self.assertIs(is_for_ever(rule, ((sign,), (sign,) * 2, (sign,) * 3)), True)
            self.assertEqual(first_cuts(rule, 4)[:3], [0, 0, 0])
            self.assertEqual(first_cuts(rule, 4)[3:], [rule.signs ** 2, rule.signs ** 2 * (rule.signs - 1)])
            self.assertEqual(parting(rule, Rule(rule.signs, 1, rule.words, 1, None)), (sign,))
            self.assertEqual(parting(rule, Rule(rule.signs, 1, rule.words, 3, 5)), (0, 0) + (other,) * 3)

    def test_least_is_most(self):
        for rule, sign, _ in rules_of_one_sign(3, 3):
            self.assertEqual(needless(rule), [(sign,)])
            self.assertIs(alike(rule, Rule(rule.signs, 3, (), 1, 3)), True)
            self.assertEqual(mean_first(rule), (3, 1))
            self.assertIsNone(meets(rule))
            self.assertEqual(differences(rule), 0)

    def test_a_run_of_one_sign(self):
        for window in (2, 3):
            for sign in (0, 1):
                rule = Rule(2, window, ((sign,) * window,), 1, None)
                # Behind the first cut, each further equal sign cuts again: the window goes over the cut.
                self.assertEqual(cuts(rule, (sign,) * 6), list(range(window, 7)))
                self.assertEqual(meets(rule), window - 1)
                # The windows over a changed sign are as many as the window has signs.
                self.assertEqual(differences(rule), window)

    def test_fitting(self):
        for rule, sign, other in rules_of_one_sign(1, None):
            text = tuple(range(rule.signs)) * 2
            seen = [(text, tuple(cuts(rule, text)))]
            self.assertEqual(fitting(rule.signs, 1, 1, None, seen), (1, [(sign,)], [(sign,)]))
            seen = [((sign,), (1,))]
            every = list(all_of(rule.signs, 1))
            self.assertEqual(fitting(rule.signs, 1, 1, None, seen), (2 ** (rule.signs - 1), [(sign,)], every))
            seen = [((other,), ())]
            rest = [word for word in every if word != (other,)]
            self.assertEqual(fitting(rule.signs, 1, 1, None, seen), (2 ** (rule.signs - 1), [], rest))


if __name__ == "__main__":
    unittest.main()
