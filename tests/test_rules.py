import unittest

from cutsagain.errors import BadLengths, BadSigns, BadWindow, BadWords
from cutsagain.rules import Rule

from tests.plain import LENGTHS, all_words

NO_INTEGERS = (True, False, None, "", "2", (), (2,), [2], {2: 2}, {})


class MakingTest(unittest.TestCase):
    def assert_raises(self, error, *told):
        with self.assertRaises(error) as caught:
            Rule(*told)
        self.assertIs(caught.exception.__class__, error)
        return caught.exception

    def assert_bad_words(self, index, words, signs=2, window=2):
        # least and most are wrong too: the words come ahead of them.
        for least, most in ((1, None), (0, 9)):
            self.assertEqual(self.assert_raises(BadWords, signs, window, words, least, most).index, index)

    def test_properties(self):
        rule = Rule(3, 2, ((0, 2), (1, 1)), 2, 5)
        self.assertEqual((rule.signs, rule.window, rule.words, rule.least, rule.most),
                         (3, 2, ((0, 2), (1, 1)), 2, 5))
        self.assertIsNone(Rule(3, 2, (), 2, None).most)

    def test_properties_are_not_assigned(self):
        rule = Rule(2, 1, (), 1, 2)
        for name in ("signs", "window", "words", "least", "most"):
            with self.assertRaises(AttributeError):
                setattr(rule, name, 2)
        self.assertEqual(rule, Rule(2, 1, (), 1, 2))

    def test_all_rules_of_right_values_are_made(self):
        for signs, window in ((2, 1), (2, 2), (2, 3), (3, 1), (3, 2)):
            for words in all_words(signs, window):
                self.assertEqual(Rule(signs, window, words, 1, None).words, words)
        for least, most in LENGTHS:
            rule = Rule(2, 1, (), least, most)
            self.assertEqual((rule.least, rule.most), (least, most))
        every = tuple((a, b, c) for a in range(3) for b in range(3) for c in range(3))
        self.assertEqual(Rule(3, 3, every, 1, None).words, every)

    def test_bad_signs(self):
        for signs in NO_INTEGERS + (-2, 0, 1, 4, 10 ** 30):
            self.assert_raises(BadSigns, signs, 1, (), 1, None)

    def test_bad_window(self):
        for window in NO_INTEGERS + (-1, 0, 4, 10 ** 30):
            self.assert_raises(BadWindow, 2, window, (), 1, None)

    def test_words_that_are_no_tuple(self):
        for words in (None, True, 3, "", "01", [], [(0, 1)], {}, {(0, 1): 1}):
            self.assert_bad_words(None, words)

    def test_things_that_are_no_word(self):
        for thing in (None, True, 0, 1, "", "00", [1, 1], {}, {1: 1}, (), (1,), (1, 1, 1), (1, 2), (-1, 1), (2, 0),
                      (1, True), (True, True), (False, 1), (1, None), (1, "1"), (1, (1,)), ((1, 1),), (1, [])):
            self.assert_bad_words(0, (thing,))
            self.assert_bad_words(1, ((0, 0), thing))
            self.assert_bad_words(2, ((0, 0), (0, 1), thing, (1, 1)))

    def test_words_hang_on_signs_and_window(self):
        self.assert_bad_words(1, ((0,), (2,)), signs=2, window=1)
        self.assertEqual(Rule(3, 1, ((0,), (2,)), 1, None).words, ((0,), (2,)))
        self.assert_bad_words(0, ((3,),), signs=3, window=1)
        self.assert_bad_words(0, ((0, 1),), signs=3, window=3)
        self.assert_bad_words(0, ((0, 1),), signs=3, window=1)

    def test_words_out_of_order_or_equal(self):
        self.assert_bad_words(1, ((0, 1), (0, 1)))
        self.assert_bad_words(1, ((0, 1), (0, 0)))
        self.assert_bad_words(1, ((1, 0), (0, 1), (0, 0)))
        self.assert_bad_words(2, ((0, 1), (1, 0), (1, 0)))
        self.assert_bad_words(3, ((0, 0), (0, 1), (1, 1), (1, 0)))

    def test_the_first_wrong_thing_among_the_words_is_told(self):
        self.assert_bad_words(1, ((0, 1), (0, 0), None))
        self.assert_bad_words(1, ((0, 1), None, (0, 0)))
        self.assert_bad_words(0, ("", (0, 1), (0, 0)))

    def test_bad_lengths(self):
        for least in NO_INTEGERS + (-1, 0, 7, 8, 10 ** 30):
            for most in (None, 8, "x"):
                self.assert_raises(BadLengths, 2, 1, (), least, most)
        for most in tuple(value for value in NO_INTEGERS if value is not None) + (-1, 0, 9, 10 ** 30):
            self.assert_raises(BadLengths, 2, 1, (), 1, most)
        for least, most in ((2, 1), (6, 5), (3, 2), (6, 9), (6, 0), (1, True)):
            self.assert_raises(BadLengths, 2, 1, (), least, most)

    def test_the_error_of_the_first_argument_comes_first(self):
        self.assert_raises(BadSigns, 4, 0, None, 0, 0)
        self.assert_raises(BadSigns, 4, 1, (), 1, None)
        self.assert_raises(BadWindow, 2, 0, None, 0, 0)
        self.assert_raises(BadWindow, 2, 0, (), 1, 9)
        self.assertEqual(self.assert_raises(BadWords, 2, 1, None, 0, 0).index, None)
        self.assertEqual(self.assert_raises(BadWords, 2, 1, ((0,), (0,)), 1, 9).index, 1)

    def test_wrong_arguments_stay_as_they_are(self):
        words = [(0, 1)]
        inner = ([0, 1],)
        self.assert_raises(BadWords, 2, 2, words, 1, None)
        self.assert_raises(BadWords, 2, 2, inner, 1, None)
        self.assertEqual((words, inner), ([(0, 1)], ([0, 1],)))


class EqualityTest(unittest.TestCase):
    def test_rules_made_anew_are_equal(self):
        for told in ((2, 1, ((1,),), 1, None), (3, 2, ((0, 2), (1, 1)), 2, 5), (2, 3, (), 6, 8)):
            self.assertTrue(Rule(*told) == Rule(*told))
            self.assertFalse(Rule(*told) != Rule(*told))

    def test_rules_that_differ_in_one_property_are_unlike(self):
        rule = Rule(2, 1, (), 2, 4)
        others = (Rule(3, 1, (), 2, 4), Rule(2, 2, (), 2, 4), Rule(2, 1, ((1,),), 2, 4),
                  Rule(2, 1, (), 1, 4), Rule(2, 1, (), 2, 5), Rule(2, 1, (), 2, None))
        for other in others:
            self.assertFalse(rule == other)
            self.assertTrue(rule != other)
            self.assertFalse(other == rule)

    def test_rules_that_cut_alike_can_be_unlike(self):
        self.assertFalse(Rule(2, 1, (), 1, 1) == Rule(2, 1, ((0,), (1,)), 1, 1))

    def test_rules_are_equal_to_nothing_of_another_kind(self):
        rule = Rule(2, 1, ((1,),), 1, None)
        for other in (None, True, 2, "rule", (2, 1, ((1,),), 1, None), [rule], (rule,), {}, Rule, object()):
            self.assertFalse(rule == other)
            self.assertFalse(other == rule)
            self.assertTrue(rule != other)


if __name__ == "__main__":
    unittest.main()
