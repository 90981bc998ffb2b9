import unittest
from itertools import product

from cutsagain.errors import BadLine
from cutsagain.rules import Rule
from cutsagain.texts import read, write

from tests.plain import LENGTHS, some_rules

SHORT = Rule(2, 1, ((1,),), 2, 3)

PAIRS = "rule 3 2 2 5\nword 0 1\nword 1 2\nword 2 0"

# What can be put in a word's place: numbers in and out of all ranges, and what looks like numbers or names.
PARTS = [str(number) for number in range(11)] + [
    "none", "rule", "word", "None", "NONE", "Rule", "words", "-1", "+1", "01", "1.", "1,", "x", "\t1", "1\r", "\u0661",
    "\u00b2", "\uff11", "n", "\u00a01"]


class WriteTest(unittest.TestCase):
    def test_examples_by_hand(self):
        self.assertEqual(write(SHORT), "rule 2 1 2 3\nword 1")
        self.assertEqual(write(Rule(3, 3, ((0, 1, 2), (2, 1, 0)), 6, None)), "rule 3 3 6 none\nword 0 1 2\nword 2 1 0")
        self.assertEqual(write(Rule(3, 2, ((0, 1), (1, 2), (2, 0)), 2, 5)), PAIRS)

    def test_rules_without_words(self):
        self.assertEqual(write(Rule(2, 1, (), 1, None)), "rule 2 1 1 none")
        self.assertEqual(write(Rule(3, 2, (), 6, 8)), "rule 3 2 6 8")

    def test_each_number_for_most(self):
        for least, most in LENGTHS:
            told = "none" if most is None else str(most)
            self.assertEqual(write(Rule(2, 1, (), least, most)), f"rule 2 1 {least} {told}")

    def test_all_words_of_the_longest_rule(self):
        rule = some_rules(2, 3, [(1, 8)])[-1]
        self.assertEqual(write(rule).split("\n"), ["rule 2 3 1 8"] + [
            f"word {at >> 2} {at >> 1 & 1} {at & 1}" for at in range(8)])


class ReadTest(unittest.TestCase):
    def test_what_was_written_is_read(self):
        rules = (some_rules(2, 1, LENGTHS) + some_rules(2, 2, LENGTHS) + some_rules(2, 3, LENGTHS, 17)
                 + some_rules(3, 1, LENGTHS) + some_rules(3, 2, LENGTHS, 29))
        rules += [Rule(3, 3, ((0, 0, 0), (2, 2, 2)), 6, 7), Rule(3, 3, tuple(product(range(3), repeat=3)), 1, 1)]
        for rule in rules:
            self.assertEqual(read(write(rule)), rule)
            self.assertEqual(write(read(write(rule))), write(rule))

    def test_values(self):
        rule = read("rule 3 2 6 8\nword 0 2\nword 2 0")
        self.assertIsInstance(rule, Rule)
        self.assertEqual((rule.signs, rule.window, rule.words, rule.least, rule.most), (3, 2, ((0, 2), (2, 0)), 6, 8))
        self.assertIsNone(read("rule 3 2 6 none").most)
        self.assertEqual(read("rule 3 2 6 none").words, ())

    def test_further_spaces_mean_nothing(self):
        for text in ("  rule 3 2 2 5\nword 0 1\nword 1 2\nword 2 0", "rule  3   2 2  5\nword 0 1\nword 1 2\nword 2 0",
                     "rule 3 2 2 5   \nword 0 1 \n word 1 2\nword  2  0  ", PAIRS.replace(" ", "    "),
                     " " + PAIRS.replace("\n", " \n ").replace(" ", "  ") + " "):
            self.assertEqual(read(text), read(PAIRS), text)

    def test_spaces_are_needed_between_words(self):
        self.wrong("rule3 2 2 5", 1, 1)
        self.wrong("rule 32 2 5", 1, 2)
        self.wrong("rule 3 22 5", 1, 3)
        self.wrong("rule 3 2 25", 1, 4)
        self.wrong("rule 3 2 2 5\nword0 1", 2, 1)
        self.wrong("rule 3 2 2 5\nword 01", 2, 2)

    def wrong(self, text, line, word):
        with self.assertRaises(BadLine) as caught:
            read(text)
        self.assertEqual((caught.exception.line, caught.exception.word), (line, word), text)

    def test_texts_and_lines_without_words(self):
        for text in ("", " ", "   ", "\n", "\n\n", "\nrule 2 1 1 none", " \nword 1"):
            self.wrong(text, 1, 1)
        self.wrong("rule 2 1 1 none\n", 2, 1)
        self.wrong("rule 2 1 1 none\n   ", 2, 1)
        self.wrong("rule 2 1 1 none\n\nword 1", 2, 1)
        self.wrong(PAIRS + "\n", 5, 1)
        self.wrong(PAIRS.replace("\nword 1", "\n\nword 1"), 3, 1)

    def test_lines_that_end_too_early(self):
        self.wrong("rule", 1, 2)
        self.wrong("rule 2", 1, 3)
        self.wrong("rule 2 1", 1, 4)
        self.wrong("rule 2 1 1", 1, 5)
        self.wrong("rule 2 1 1 \nword 1", 1, 5)
        self.wrong("rule 2 1 1 none\nword", 2, 2)
        self.wrong("rule 3 3 1 none\nword 0 1", 2, 4)
        self.wrong("rule 3 3 1 none\nword 0 1 1\nword 2", 3, 3)

    def test_words_too_many(self):
        self.wrong("rule 2 1 1 none 1", 1, 6)
        self.wrong("rule 2 1 1 none none word 1", 1, 6)
        self.wrong("rule 2 1 1 5 5", 1, 6)
        self.wrong("rule 2 1 1 none word 1", 1, 6)
        self.wrong("rule 2 1 1 none\nword 1 1", 2, 3)
        self.wrong("rule 2 2 1 none\nword 1 1 1 1", 2, 4)
        self.wrong("rule 3 3 1 none\nword 0 1 1\nword 1 1 1 x", 3, 5)

    def test_the_first_word_that_cannot_stand_is_told(self):
        self.wrong("rule 4 4 7 9 9", 1, 2)
        self.wrong("rule 2 4 7 9 9", 1, 3)
        self.wrong("rule 2 3 7 9 9", 1, 4)
        self.wrong("rule 2 3 6 9 9", 1, 5)
        self.wrong("rule 2 3 6 8 9", 1, 6)
        self.wrong("rule 4", 1, 2)
        self.wrong("rule 2 x", 1, 3)
        self.wrong("rule 3 3 1 none\nword 3", 2, 2)
        self.wrong("rule 3 3 1 none\nword 0 3", 2, 3)
        self.wrong("rule 3 3 1 none\nwords 0 3", 2, 1)
        self.wrong("rule 3 3 1 none\nword 0 0 0 3\nword", 2, 5)

    def test_the_first_line_that_cannot_stand_is_told(self):
        self.wrong("rule 2 1 1 9\nword 2\nword 0", 1, 5)
        self.wrong("rule 2 1 1 8\nword 2\nword 0", 2, 2)
        self.wrong("rule 2 1 1 8\nword 1\nword 0\nword 2", 3, 0)
        self.wrong("rule 2 1 1 8\nword 0\nword 1\nword 2", 4, 2)

    def test_words_not_above_the_one_ahead(self):
        self.wrong("rule 2 1 1 none\nword 1\nword 0", 3, 0)
        self.wrong("rule 2 1 1 none\nword 1\nword 1", 3, 0)
        self.wrong("rule 3 2 1 none\nword 0 1\nword 1 0\nword 0 2", 4, 0)
        self.wrong("rule 3 2 1 none\nword 0 1\nword 1 0\n  word 1   0 ", 4, 0)
        # Not right otherwise: the word that is wrong is told.
        self.wrong("rule 3 2 1 none\nword 1 1\nword 0", 3, 3)
        self.wrong("rule 3 2 1 none\nword 1 1\nword 0 0 0", 3, 4)
        self.wrong("rule 3 2 1 none\nword 1 1\nword 0 3", 3, 3)

    def test_all_parts_in_all_places_of_the_first_line(self):
        right = [("rule",), ("2", "3"), ("1", "2", "3"), ("1", "2", "3", "4", "5", "6"),
                 ("none", "3", "4", "5", "6", "7", "8")]
        for at, choices in enumerate(right):
            for part in PARTS:
                parts = ["rule", "2", "1", "3", "none"]
                parts[at] = part
                if part in choices:
                    self.assertIsInstance(read(" ".join(parts)), Rule)
                else:
                    self.wrong(" ".join(parts), 1, at + 1)

    def test_each_least_with_each_number_for_most(self):
        for least in range(1, 7):
            for most in range(10):
                text = f"rule 2 1 {least} {most}"
                if least <= most <= 8:
                    self.assertEqual(read(text), Rule(2, 1, (), least, most))
                else:
                    self.wrong(text, 1, 5)

    def test_all_parts_in_all_places_of_a_word(self):
        for signs, window in ((2, 1), (2, 3), (3, 1), (3, 2)):
            for at in range(window + 1):
                for part in PARTS:
                    parts = ["word"] + ["1"] * window
                    parts[at] = part
                    text = f"rule {signs} {window} 1 none\nword{' 0' * window}\n{' '.join(parts)}"
                    if part in (("0", "1", "2")[:signs] if at > 0 else ("word",)):
                        if parts != ["word", "0"]:
                            self.assertEqual(len(read(text).words), 2)
                        else:
                            self.wrong(text, 3, 0)
                    else:
                        self.wrong(text, 3, at + 1)

    def test_a_second_rule(self):
        self.wrong("rule 2 1 1 none\nrule 2 1 1 none", 2, 1)
        self.wrong("word 1", 1, 1)
        self.wrong("word 1\nrule 2 1 1 none", 1, 1)

    def test_only_newlines_end_lines_and_only_spaces_words(self):
        self.wrong("rule 2 1 1 none\r\nword 1", 1, 5)
        self.wrong("rule 2 1 1 none\rword 1", 1, 5)
        self.wrong("rule\t2 1 1 none", 1, 1)
        self.wrong("rule 2 1 1 none\x0cword 1", 1, 5)
        self.wrong("rule 2 1 1 none\u2028word 1", 1, 5)
        self.wrong("rule 2 1 1 none\n\tword 1", 2, 1)

    def test_calls_repeat(self):
        self.assertEqual(read(PAIRS), read(PAIRS))
        self.assertEqual(write(read(PAIRS)), PAIRS)
        self.wrong("rule 2 1 1 none\nword", 2, 2)
        self.assertEqual(write(read(PAIRS)), PAIRS)
        self.assertIs(type(write(SHORT)), str)


if __name__ == "__main__":
    unittest.main()
