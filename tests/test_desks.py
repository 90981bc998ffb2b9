import unittest
from itertools import product

from cutsagain.desks import Desk
from cutsagain.errors import BadText
from cutsagain.rules import Rule, cuts

from tests.plain import LENGTHS, NO_TEXTS, all_texts, plain_cuts, plain_stand, some_rules

ONES = Rule(2, 1, ((1,),), 1, None)
SHORT = Rule(2, 1, ((1,),), 2, 3)


def stand(desk):
    """All that a desk tells."""
    return desk.rule, desk.text, len(desk), desk.places(), desk.waits()


def told(rule, *tellings):
    desk = Desk(rule)
    for signs in tellings:
        desk.tell(signs)
    return desk


class TellTest(unittest.TestCase):
    def test_examples_by_hand(self):
        desk = Desk(SHORT)
        self.assertEqual(desk.tell((1, 1)), [2])
        self.assertEqual(desk.tell((0,)), [])
        self.assertEqual(desk.tell((0, 0, 0, 1)), [5, 7])
        self.assertEqual(desk.places(), [2, 5, 7])
        self.assertEqual(desk.waits(), ())
        self.assertEqual(desk.tell((0,)), [])
        self.assertEqual(desk.waits(), (0,))

    def test_an_empty_desk(self):
        for rule in (ONES, SHORT, Rule(3, 3, (), 6, 8)):
            desk = Desk(rule)
            self.assertEqual(stand(desk), (rule, (), 0, [], ()))
            self.assertIs(desk.undo(), False)
            self.assertEqual(stand(desk), (rule, (), 0, [], ()))

    def test_an_empty_telling_is_one(self):
        desk = Desk(ONES)
        self.assertEqual(desk.tell(()), [])
        self.assertEqual(stand(desk), (ONES, (), 1, [], ()))
        self.assertEqual(desk.tell((1,)), [1])
        # The cut at the end of the text came before.
        self.assertEqual(desk.tell(()), [])
        self.assertEqual(stand(desk), (ONES, (1,), 3, [1], ()))
        self.assertIs(desk.undo(), True)
        self.assertEqual(stand(desk), (ONES, (1,), 2, [1], ()))
        self.assertIs(desk.undo(), True)
        self.assertIs(desk.undo(), True)
        self.assertIs(desk.undo(), False)

    def test_windows_reach_over_tellings(self):
        rule = Rule(2, 3, ((0, 1, 1),), 1, None)
        self.assertEqual([told(rule, (0,), (1,)).tell((1,)), told(rule, (0, 1, 1)).tell((1, 0, 1, 1))], [[3], [7]])

    def test_pieces_reach_over_tellings(self):
        desk = told(SHORT, (0,), (0,))
        self.assertEqual(desk.waits(), (0, 0))
        self.assertEqual(desk.tell((0,)), [3])

    def test_all_tellings_of_short_texts(self):
        rules = some_rules(2, 1, LENGTHS[::4]) + some_rules(2, 2, LENGTHS[::9], 3) + some_rules(3, 2, [(2, 4)], 100)
        for rule in rules:
            for text in all_texts(rule.signs, 5)[::7]:
                places = plain_cuts(rule, text)
                for ends in product((False, True), repeat=max(0, len(text) - 1)):
                    desk, begin = Desk(rule), 0
                    for end in [at + 1 for at, is_end in enumerate(ends) if is_end] + [len(text)]:
                        self.assertEqual(desk.tell(text[begin:end]), [at for at in places if begin < at <= end])
                        self.assertEqual(desk.text, text[:end])
                        begin = end
                    self.assertEqual(stand(desk), (rule, text, sum(ends) + 1, places,
                                                   text[max(places, default=0):]))

    def test_many_tellings_stand_as_one(self):
        for rule in (ONES, SHORT, Rule(2, 3, ((0, 1, 0), (1, 1, 0)), 3, None)):
            text = (0, 1, 1, 0, 1) * 20
            one, many = told(rule, text), told(rule, *[(sign,) for sign in text])
            self.assertEqual(stand(one)[:2] + stand(one)[3:], stand(many)[:2] + stand(many)[3:])
            self.assertEqual((len(one), len(many)), (1, 100))
            self.assertEqual(plain_stand(rule, one.text), plain_stand(rule, many.text))
            for signs in all_texts(2, 3):
                self.assertEqual(one.copy().tell(signs), many.copy().tell(signs))

    def test_a_text_of_400_signs(self):
        desk = Desk(ONES)
        self.assertEqual(desk.tell((1,) * 400), list(range(1, 401)))
        self.assertEqual(desk.tell(()), [])
        for signs in ((0,), (1,), (0,) * 400):
            before = stand(desk)
            with self.assertRaises(BadText):
                desk.tell(signs)
            self.assertEqual(stand(desk), before)
        desk = told(SHORT, (0,) * 150, (0,) * 150)
        before = stand(desk)
        with self.assertRaises(BadText):
            desk.tell((0,) * 101)
        self.assertEqual(stand(desk), before)
        self.assertEqual(desk.tell((0,) * 100), list(range(303, 400, 3)))
        self.assertEqual(len(desk.text), 400)
        self.assertIs(desk.undo(), True)
        self.assertEqual(stand(desk), before)

    def test_no_texts(self):
        for tellings in ((), ((0, 1, 0), ())):
            desk = told(ONES, *tellings)
            before = stand(desk)
            for value in NO_TEXTS:
                with self.assertRaises(BadText):
                    desk.tell(value)
                self.assertEqual(stand(desk), before)

    def test_signs_hang_on_the_rule(self):
        self.assertEqual(Desk(Rule(3, 1, ((2,),), 1, None)).tell((2,)), [1])
        with self.assertRaises(BadText):
            Desk(Rule(3, 1, ((2,),), 1, None)).tell((3,))


class UndoTest(unittest.TestCase):
    def test_each_telling_is_taken_back(self):
        desk = Desk(SHORT)
        stands = []
        for signs in ((0, 0, 1), (), (1, 0), (1,), (0,) * 7, ()):
            stands.append(stand(desk))
            desk.tell(signs)
        while stands:
            self.assertIs(desk.undo(), True)
            self.assertEqual(stand(desk), stands.pop())
        self.assertIs(desk.undo(), False)
        self.assertEqual(stand(desk), stand(Desk(SHORT)))

    def test_told_again_behind_an_undo(self):
        desk = told(ONES, (0, 1), (1, 1))
        desk.undo()
        self.assertEqual(desk.tell((0, 0, 1)), [5])
        self.assertEqual(stand(desk), (ONES, (0, 1, 0, 0, 1), 2, [2, 5], ()))

    def test_no_undo_behind_a_telling_that_failed(self):
        desk = told(ONES, (0, 1))
        with self.assertRaises(BadText):
            desk.tell((2,))
        self.assertIs(desk.undo(), True)
        self.assertIs(desk.undo(), False)


class CopyTest(unittest.TestCase):
    def test_a_copy_stands_as_its_desk(self):
        for tellings in ((), ((),), ((0, 1, 0), (1,), ())):
            desk = told(SHORT, *tellings)
            self.assertEqual(stand(desk.copy()), stand(desk))
            self.assertIsInstance(desk.copy(), Desk)

    def test_a_copy_goes_its_own_way(self):
        desk = told(ONES, (0, 1), (1,))
        before = stand(desk)
        copy = desk.copy()
        copy.tell((1, 1))
        self.assertEqual(stand(desk), before)
        for _ in range(3):
            self.assertIs(copy.undo(), True)
        self.assertEqual(stand(copy), stand(Desk(ONES)))
        self.assertEqual(stand(desk), before)
        copy.copy().tell((1,))
        self.assertEqual((stand(desk), stand(copy)), (before, stand(Desk(ONES))))

    def test_a_desk_goes_its_own_way(self):
        desk = told(ONES, (0, 1), (1,))
        copy = desk.copy()
        before = stand(copy)
        desk.tell((0, 1))
        self.assertEqual(stand(copy), before)
        for _ in range(3):
            self.assertIs(desk.undo(), True)
        self.assertEqual(stand(copy), before)
        self.assertIs(copy.undo(), True)
        self.assertEqual(copy.text, (0, 1))
        desk.copy().tell((1,))
        self.assertEqual(stand(desk), stand(Desk(ONES)))

    def test_desks_of_one_rule_are_independent(self):
        one, other = Desk(ONES), Desk(ONES)
        one.tell((1,))
        self.assertEqual(stand(other), (ONES, (), 0, [], ()))


class CallsTest(unittest.TestCase):
    def test_lists_are_new(self):
        desk = Desk(ONES)
        for found in (desk.tell((1, 1)), desk.places(), desk.places()):
            found.append("more")
            self.assertEqual(stand(desk), (ONES, (1, 1), 1, [1, 2], ()))

    def test_properties_are_not_assigned(self):
        desk = told(ONES, (0, 1))
        for name, value in (("rule", SHORT), ("text", ())):
            with self.assertRaises(AttributeError):
                setattr(desk, name, value)
        self.assertEqual(stand(desk), (ONES, (0, 1), 1, [2], ()))

    def test_kinds_of_values(self):
        desk = told(ONES, (0, 1, 0))
        self.assertIs(type(desk.tell(())), list)
        self.assertIs(type(desk.places()), list)
        self.assertIs(type(desk.waits()), tuple)
        self.assertIs(type(desk.text), tuple)
        self.assertIsInstance(desk.rule, Rule)

    def test_desks_are_equal_to_nothing_of_another_kind(self):
        desk = told(ONES, (0,))
        for value in (None, True, 0, 1, "", (0,), [(0,)], {}, ONES):
            self.assertFalse(desk == value)
            self.assertTrue(desk != value)

    def test_the_rule_and_what_was_told_stay_as_they_are(self):
        signs = (0, 1, 1)
        desk = Desk(ONES)
        desk.tell(signs)
        desk.tell(signs)
        desk.undo()
        self.assertEqual(signs, (0, 1, 1))
        self.assertEqual(desk.rule, Rule(2, 1, ((1,),), 1, None))
        self.assertEqual(cuts(desk.rule, desk.text), desk.places())


if __name__ == "__main__":
    unittest.main()
