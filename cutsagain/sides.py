"""Rules side by side: which texts part them, which words are needless, and which ones keep pieces short."""

from itertools import combinations

from cutsagain.checks import check_like, check_number
from cutsagain.growing import longest
from cutsagain.partings import first_parting
from cutsagain.rules import Rule
from cutsagain.stands import START
from cutsagain.words import all_words, check_few_words

GREATEST_GOAL = 12
MOST_FURTHER_WORDS = 3


def parting(one, other):
    """The least of the shortest texts at whose end just one of two rules has a cut, None if there is none."""
    check_like(one, other)
    return first_parting(one, other, (START, START))


def alike(one, other):
    """Whether two rules cut all texts alike."""
    return parting(one, other) is None


def needless(rule):
    """The words without which, each alone, all texts are cut alike, ascending."""
    return [word for word in rule.words if alike(rule, without(rule, word))]


def without(rule, word):
    words = tuple([other for other in rule.words if other != word])
    return Rule(rule.signs, rule.window, words, rule.least, rule.most)


def fewest_words(rule, goal, most):
    """All smallest sets of at most `most` further words by which no piece that ends with a cut is above the goal."""
    check_few_words(rule.signs, rule.window)
    check_number(goal, 1, GREATEST_GOAL)
    check_number(most, 0, MOST_FURTHER_WORDS)
    further = [word for word in all_words(rule.signs, rule.window) if word not in rule.words]
    for many in range(most + 1):
        found = [words for words in combinations(further, many) if is_short(with_words(rule, words), goal)]
        if found:
            return found
    return []


def with_words(rule, further):
    words = tuple(sorted([*rule.words, *further]))
    return Rule(rule.signs, rule.window, words, rule.least, rule.most)


def is_short(rule, goal):
    """Whether the pieces of the rule that end with a cut have a greatest length, and it is at most the goal."""
    greatest = longest(rule)
    return greatest is not None and greatest[0] <= goal
