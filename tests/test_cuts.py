import unittest

from cutsagain.errors import BadText
from cutsagain.rules import Rule, cuts, pieces

from tests.plain import LENGTHS, all_texts, plain_cuts, some_rules

ONES = Rule(2, 1, ((1,),), 1, None)


class CutsTest(unittest.TestCase):
    def assert_cuts(self, rule, text, places):
        self.assertEqual(cuts(rule, text), places)
        self.assertEqual(plain_cuts(rule, text), places)

    def test_words_cut_behind_their_last_sign(self):
        self.assert_cuts(ONES, (0, 0, 1, 0, 1, 1), [3, 5, 6])
        self.assert_cuts(Rule(2, 2, ((0, 1),), 1, None), (0, 1, 1, 0, 0, 1), [2, 6])
        self.assert_cuts(Rule(2, 3, ((0, 1, 0),), 1, None), (0, 1, 0, 1, 0), [3, 5])
        self.assert_cuts(Rule(3, 2, ((2, 2),), 1, None), (2, 2, 2, 1, 2), [2, 3])

    def test_no_word_cuts_ahead_of_least(self):
        self.assert_cuts(Rule(2, 1, ((1,),), 3, None), (1, 1, 1, 1, 0, 1, 1), [3, 6])
        self.assert_cuts(Rule(2, 1, ((1,),), 6, None), (1,) * 13, [6, 12])
        self.assert_cuts(Rule(2, 1, ((1,),), 2, None), (1, 0, 0), [])

    def test_most_cuts_without_a_word(self):
        self.assert_cuts(Rule(2, 1, (), 1, 3), (0,) * 8, [3, 6])
        self.assert_cuts(Rule(2, 1, ((1,),), 2, 3), (0, 0, 0, 1, 0, 0), [3, 6])
        self.assert_cuts(Rule(2, 3, (), 1, 1), (0, 1), [1, 2])
        self.assert_cuts(Rule(2, 1, ((1,),), 6, 6), (1,) * 12, [6, 12])

    def test_windows_reach_back_over_cuts(self):
        self.assert_cuts(Rule(2, 3, ((1, 1, 1),), 1, None), (1, 1, 1, 1, 1), [3, 4, 5])
        self.assert_cuts(Rule(2, 3, ((1, 1, 1),), 2, None), (1, 1, 1, 1, 1, 0), [3, 5])
        self.assert_cuts(Rule(2, 3, ((0, 0, 1),), 2, 2), (0, 0, 1, 0), [2, 4])
        self.assert_cuts(Rule(2, 2, ((0, 1), (1, 0)), 2, 4), (0, 1, 0, 1, 1, 1, 1, 1), [2, 4, 8])

    def test_texts_shorter_than_the_window(self):
        for window in (1, 2, 3):
            every = tuple(word for word in all_texts(2, window) if len(word) == window)
            rule = Rule(2, window, every, 1, None)
            for many in range(window):
                self.assert_cuts(rule, (0,) * many, [])
            self.assert_cuts(rule, (0,) * window, [window])
        self.assert_cuts(Rule(2, 3, (), 1, 2), (0, 0), [2])

    def test_the_empty_text(self):
        for rule in (ONES, Rule(3, 3, (), 1, 1)):
            self.assertEqual((cuts(rule, ()), pieces(rule, ())), ([], []))

    def test_the_longest_text(self):
        self.assertEqual(cuts(ONES, (1,) * 400), list(range(1, 401)))
        self.assertEqual(pieces(ONES, (0,) * 400), [(0,) * 400])

    def test_all_short_texts(self):
        lengths = LENGTHS[::5]
        rules = (some_rules(2, 1, LENGTHS) + some_rules(2, 2, lengths) + some_rules(2, 3, lengths, 37)
                 + some_rules(3, 1, lengths[::3]) + some_rules(3, 2, lengths[::3], 101))
        for rule in rules:
            for text in all_texts(rule.signs, 7 if rule.signs == 2 else 5):
                self.assertEqual(cuts(rule, text), plain_cuts(rule, text), (rule.words, rule.least, rule.most, text))

    def test_values_that_are_no_texts(self):
        for value in (None, True, 0, "", "01", [], [0, 1], {}, {0: 1}, (2,), (0, -1), (0, 1, 2), (True,), (0, False),
                      (None,), ("0",), ((0,),), ([],), (0,) * 401, (0,) * 400 + (2,), (0,) * 400 + (None,)):
            for function in (cuts, pieces):
                with self.assertRaises(BadText):
                    function(ONES, value)

    def test_signs_hang_on_the_rule(self):
        self.assertEqual(cuts(Rule(3, 1, ((2,),), 1, None), (2, 0)), [1])
        with self.assertRaises(BadText):
            cuts(Rule(3, 1, ((2,),), 1, None), (3,))


class PiecesTest(unittest.TestCase):
    def test_with_a_rest_and_without(self):
        self.assertEqual(pieces(ONES, (0, 1, 0)), [(0, 1), (0,)])
        self.assertEqual(pieces(ONES, (0, 1, 1)), [(0, 1), (1,)])
        self.assertEqual(pieces(ONES, (0, 0)), [(0, 0)])
        self.assertEqual(pieces(Rule(3, 1, (), 1, 2), (2, 1, 0, 1, 2)), [(2, 1), (0, 1), (2,)])

    def test_pieces_are_what_stands_between_the_cuts(self):
        for rule in some_rules(2, 2, LENGTHS[::7]):
            for text in all_texts(2, 7):
                parts = pieces(rule, text)
                self.assertEqual(sum(parts, ()), text)
                self.assertNotIn((), parts)
                ends = [sum(len(part) for part in parts[:many]) for many in range(1, len(parts) + 1)]
                self.assertEqual([end for end in ends if end in plain_cuts(rule, text)], plain_cuts(rule, text))
                self.assertLessEqual(len(parts), len(plain_cuts(rule, text)) + 1)
                for part in parts[:-1]:
                    self.assertGreaterEqual(len(part), rule.least)
                if rule.most is not None:
                    self.assertTrue(all(len(part) <= rule.most for part in parts))


class CallsTest(unittest.TestCase):
    def test_lists_are_new_and_calls_repeat(self):
        rule = Rule(2, 1, ((1,),), 2, 3)
        for function in (cuts, pieces):
            first = function(rule, (1, 1, 1, 1, 1))
            kept = list(first)
            first.clear()
            self.assertEqual(function(rule, (1, 1, 1, 1, 1)), kept)
        self.assertEqual(rule, Rule(2, 1, ((1,),), 2, 3))

    def test_wrong_values_stay_as_they_are(self):
        value = [0, 1]
        inner = (0, [1])
        for wrong in (value, inner):
            with self.assertRaises(BadText):
                cuts(ONES, wrong)
        self.assertEqual((value, inner), ([0, 1], (0, [1])))
        self.assertEqual(cuts(ONES, (0, 1)), [2])


if __name__ == "__main__":
    unittest.main()
