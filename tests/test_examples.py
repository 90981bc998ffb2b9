"""The examples of the document's interface, word for word, and those of the README."""

import doctest
import pathlib
import re
import unittest

from cutsagain.errors import CutError

RULES = """
>>> from cutsagain.rules import Rule, cuts, pieces
>>> ones = Rule(2, 1, ((1,),), 1, None)
>>> short = Rule(2, 1, ((1,),), 2, 3)
>>> [cuts(ones, (0, 0, 1, 0, 1, 1)), pieces(ones, (0, 1, 0)), cuts(short, (1, 1, 1, 1, 1)), cuts(short, (0, 0, 0, 1, 0, 0)), short.most]
[[3, 5, 6], [(0, 1), (0,)], [2, 4], [3, 6], 3]
"""

GROWING = """
>>> from cutsagain.growing import is_ring, longest, ring
>>> from cutsagain.rules import Rule
>>> ones = Rule(2, 1, ((1,),), 1, None)
>>> short = Rule(2, 1, ((1,),), 2, 3)
>>> [longest(ones), longest(short), ring(short), is_ring(ones, ((0,), (0,))), is_ring(ones, ((), (0,))), is_ring(ones, ring(ones))]
[None, (3, (0, 0, 0)), None, True, False, True]
"""

MEETING = """
>>> from cutsagain.meeting import apart, differences, for_ever, is_for_ever, meets, together
>>> from cutsagain.rules import Rule
>>> ones = Rule(2, 1, ((1,),), 1, None)
>>> short = Rule(2, 1, ((1,),), 2, 3)
>>> [meets(ones), differences(ones), meets(short), differences(short), for_ever(ones), is_for_ever(short, ((0, 0, 0), (0,), (0, 0, 0)))]
[0, 1, None, None, None, True]
>>> [together(ones, (0, 1), (1, 1, 1)), apart(ones, (0, 1, 0), (0, 1, 1)), is_for_ever(short, for_ever(short))]
[True, 1, True]
"""

SIDES = """
>>> from cutsagain.rules import Rule
>>> from cutsagain.sides import alike, fewest_words, needless, parting
>>> ones = Rule(2, 1, ((1,),), 1, None)
>>> [parting(ones, Rule(2, 1, ((1,),), 2, None)), alike(ones, ones), needless(Rule(2, 1, ((1,),), 1, 1)), needless(ones)]
[(1,), True, [(1,)], []]
>>> [fewest_words(ones, 2, 1), fewest_words(ones, 2, 0), parting(ones, Rule(2, 2, ((0, 1), (1, 1)), 1, None))]
[[((0,),)], [], (1,)]
"""

COUNTING = """
>>> from cutsagain.counting import cut_counts, first_cuts, mean_first
>>> from cutsagain.rules import Rule
>>> ones = Rule(2, 1, ((1,),), 1, None)
>>> [first_cuts(ones, 3), cut_counts(ones, 2), mean_first(Rule(2, 1, ((1,),), 2, 3)), mean_first(ones)]
[[0, 1, 1, 1], [1, 2, 1], (5, 2), None]
"""

TOLD = """
>>> from cutsagain.told import fitting
>>> [fitting(2, 1, 1, None, [((0, 1), (2,))]), fitting(2, 1, 1, None, []), fitting(2, 1, 1, None, [((0, 0), (2,))])]
[(1, [(1,)], [(1,)]), (4, [], [(0,), (1,)]), (0, [], [])]
"""

DESKS = """
>>> from cutsagain.desks import Desk
>>> from cutsagain.rules import Rule
>>> desk = Desk(Rule(2, 1, ((1,),), 1, None))
>>> [desk.tell((0, 1, 0)), desk.waits(), desk.tell((1,)), desk.places(), desk.undo(), desk.text, len(desk)]
[[2], (0,), [4], [2, 4], True, (0, 1, 0), 1]
"""

TEXTS = r"""
>>> from cutsagain.rules import Rule
>>> from cutsagain.texts import read, write
>>> short = Rule(2, 1, ((1,),), 2, 3)
>>> [write(short).split("\n"), read(write(short)) == short, read("rule 3 2 1 none").most]
[['rule 2 1 2 3', 'word 1'], True, None]
>>> read("rule 2 1 1 none\nword 1\nword 0")
raises BadLine(line=3, word=0)
"""

SHIFTING = """
>>> from cutsagain.rules import Rule
>>> from cutsagain.shifting import put_in, shifted
>>> ones = Rule(2, 1, ((1,),), 1, None)
>>> short = Rule(2, 1, ((1,),), 2, 3)
>>> [shifted(ones, (0, 1, 0), 1, 1), shifted(ones, (0, 1, 0), 1, 0), put_in(ones), put_in(short), shifted(short, (0, 0, 0, 0, 0, 0), 0, 0)]
[1, 0, 1, None, 4]
"""

RESETS = """
>>> from cutsagain.resets import is_never, least_reset, never, resets
>>> from cutsagain.rules import Rule
>>> ones = Rule(2, 1, ((1,),), 1, None)
>>> short = Rule(2, 1, ((1,),), 2, 3)
>>> three = Rule(2, 1, (), 1, 3)
>>> [least_reset(ones), resets(ones, (0,)), resets(ones, ()), least_reset(short), resets(short, (1, 1)), least_reset(three)]
[(0,), True, False, (1, 0, 1), False, None]
>>> [is_never(three, never(three)), never(short), is_never(three, ((), (0,))), is_never(three, ((), (0, 1, 1)))]
[True, None, True, False]
"""

KINDS = """
>>> from cutsagain.kinds import akin, kinds, parted_by
>>> from cutsagain.rules import Rule
>>> ones = Rule(2, 1, ((1,),), 1, None)
>>> short = Rule(2, 1, ((1,),), 2, 3)
>>> [kinds(ones), kinds(short), akin(ones, (0,), (1, 1)), parted_by(short, (), (0,)), parted_by(short, (), (0, 0, 0)), parted_by(short, (0,), (0, 0))]
[[()], [(), (0,), (0, 0)], True, (1,), None, (0,)]
"""

SHARES = """
>>> from cutsagain.rules import Rule
>>> from cutsagain.shares import piece_shares, share
>>> ones = Rule(2, 1, ((1,),), 1, None)
>>> short = Rule(2, 1, ((1,),), 2, 3)
>>> [share(ones), piece_shares(ones), share(short), piece_shares(short), share(Rule(3, 1, (), 1, 3)), share(Rule(2, 1, (), 1, None))]
[(1, 2), None, (2, 5), [(2, 1, 2), (3, 1, 2)], (1, 3), (0, 1)]
"""

BOTH = """
>>> from cutsagain.both import first_common, longest_common
>>> from cutsagain.rules import Rule
>>> [first_common(Rule(2, 1, (), 1, 2), Rule(2, 1, (), 1, 3)), longest_common(Rule(2, 1, (), 1, 2), Rule(2, 1, (), 1, 3)), longest_common(Rule(2, 1, (), 1, 2), Rule(2, 1, ((1,),), 1, None))]
[(0, 0, 0, 0, 0, 0), (6, (0, 0, 0, 0, 0, 0)), None]
"""


class Raised:
    """What the document says of an error that a call raises."""

    def __init__(self, call):
        try:
            self.told = repr(call())
        except CutError as error:
            fields = ", ".join(f"{name}={value!r}" for name, value in vars(error).items())
            self.told = f"raises {type(error).__name__}({fields})"

    def __repr__(self):
        return self.told


class ExamplesTest(unittest.TestCase):
    def run_examples(self, text):
        said = []
        # An error that the document tells in words is a value, for a doctest.
        text = re.sub(r">>> (.*)\n(?=raises )", r">>> raised(lambda: \1)\n", text)
        examples = doctest.DocTestParser().get_doctest(text, {"raised": Raised}, "examples", None, 0)
        result = doctest.DocTestRunner(verbose=False).run(examples, out=said.append)
        self.assertEqual(result.failed, 0, "".join(said))
        self.assertGreater(result.attempted, 0)

    def test_rules(self):
        self.run_examples(RULES)

    def test_growing(self):
        self.run_examples(GROWING)

    def test_meeting(self):
        self.run_examples(MEETING)

    def test_sides(self):
        self.run_examples(SIDES)

    def test_counting(self):
        self.run_examples(COUNTING)

    def test_told(self):
        self.run_examples(TOLD)

    def test_desks(self):
        self.run_examples(DESKS)

    def test_texts(self):
        self.run_examples(TEXTS)

    def test_shifting(self):
        self.run_examples(SHIFTING)

    def test_resets(self):
        self.run_examples(RESETS)

    def test_kinds(self):
        self.run_examples(KINDS)

    def test_shares(self):
        self.run_examples(SHARES)

    def test_both(self):
        self.run_examples(BOTH)

    def test_readme(self):
        readme = pathlib.Path(__file__).resolve().parent.parent / "README.md"
        lines = readme.read_text(encoding="utf-8").split("\n")
        # An empty line ends an example, the fence of its block would be read as output.
        self.run_examples("\n".join("" if line.startswith("```") else line for line in lines))


if __name__ == "__main__":
    unittest.main()
