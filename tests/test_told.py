import unittest
from itertools import product

from cutsagain.errors import BadLengths, BadSeen, BadSigns, BadWindow, TooMany
from cutsagain.rules import Rule, cuts
from cutsagain.told import fitting

from tests.plain import LENGTHS, all_texts, all_words, plain_cuts

NO_NUMBERS = (True, False, -1, 0, "2", "", (), (2,), [2], [], {}, {2: 2}, 99)


def plain_fitting(signs, window, least, most, seen):
    fits = [words for words in all_words(signs, window)
            if all(tuple(plain_cuts(Rule(signs, window, words, least, most), text)) == places
                   for text, places in seen)]
    every = list(product(range(signs), repeat=window))
    return (len(fits), [word for word in every if fits and all(word in words for words in fits)],
            [word for word in every if any(word in words for words in fits)])


class FittingTest(unittest.TestCase):
    def hold(self, signs, window, least, most, seen):
        self.assertEqual(fitting(signs, window, least, most, seen), plain_fitting(signs, window, least, most, seen),
                         (signs, window, least, most, seen))

    def test_examples_by_hand(self):
        self.assertEqual(fitting(2, 1, 1, None, [((0, 1), (2,))]), (1, [(1,)], [(1,)]))
        self.assertEqual(fitting(2, 1, 1, None, [((0, 0), (2,))]), (0, [], []))
        # A cut by most tells nothing of the word.
        self.assertEqual(fitting(2, 1, 1, 2, [((0, 0), (2,))]), (2, [], [(1,)]))
        # Behind one sign the window is not full, and behind two the piece is long enough.
        self.assertEqual(fitting(2, 2, 1, None, [((0, 1), (2,)), ((1, 1), ())]), (4, [(0, 1)], [(0, 0), (0, 1), (1, 0)]))

    def test_nothing_seen(self):
        for seen in ([], ()):
            self.assertEqual(fitting(2, 1, 1, None, seen), (4, [], [(0,), (1,)]))
            self.assertEqual(fitting(3, 2, 6, 8, seen), (512, [], list(product(range(3), repeat=2))))
            self.assertEqual(fitting(2, 3, 1, 1, seen), (256, [], list(product(range(2), repeat=3))))

    def test_empty_texts_tell_nothing(self):
        self.assertEqual(fitting(2, 1, 1, None, [((), ())] * 12), (4, [], [(0,), (1,)]))

    def test_cuts_that_no_words_bring(self):
        # A piece is too short.
        self.assertEqual(fitting(2, 1, 2, None, [((1, 1), (1,))]), (0, [], []))
        # A piece is too long.
        self.assertEqual(fitting(2, 1, 1, 2, [((1, 1, 1), (3,))]), (0, [], []))
        self.assertEqual(fitting(2, 1, 1, 2, [((1, 1), ())]), (0, [], []))
        # The window is not full.
        self.assertEqual(fitting(2, 2, 1, None, [((1, 1), (1,))]), (0, [], []))
        self.assertEqual(fitting(2, 3, 1, 2, [((1, 1), (2,))])[0], 256)
        # One word cuts and does not cut, in one text or in two.
        self.assertEqual(fitting(2, 1, 1, None, [((1, 1), (2,))]), (0, [], []))
        self.assertEqual(fitting(2, 1, 1, None, [((1,), (1,)), ((0, 1), ())]), (0, [], []))

    def test_cuts_of_rules(self):
        for signs, window, least, most in ((2, 1, 1, None), (2, 2, 2, 4), (2, 2, 1, None), (3, 1, 2, 3), (2, 2, 1, 1)):
            texts = all_texts(signs, 5)[::17]
            for words in all_words(signs, window):
                rule = Rule(signs, window, words, least, most)
                for many in (0, 1, 2, 12):
                    seen = [(text, tuple(cuts(rule, text))) for text in texts[-many:]] if many else []
                    self.hold(signs, window, least, most, seen)
                    self.assertGreater(fitting(signs, window, least, most, seen)[0], 0)

    def test_all_short_texts_and_places(self):
        for least, most in LENGTHS[::7] + [(1, 1), (1, 2), (2, 3), (2, None)]:
            for window in (1, 2):
                for text in all_texts(2, 4)[::2]:
                    for at in range(2 ** len(text)):
                        places = tuple(place + 1 for place in range(len(text)) if at >> place & 1)
                        self.hold(2, window, least, most, [(text, places)])

    def test_two_texts(self):
        seen = [((0, 1, 1, 0), (2, 4)), ((0, 1, 1, 0), (2,)), ((1, 0, 0, 1), ()), ((1, 0, 0, 1), (4,)), ((0, 0), (2,))]
        for one, other in product(seen, repeat=2):
            for least, most in ((1, None), (2, None), (2, 2), (2, 4)):
                self.hold(2, 2, least, most, [one, other])
                self.hold(2, 2, least, most, (one, other))

    def test_nine_words(self):
        rule = Rule(3, 2, ((0, 1), (1, 2), (2, 2)), 2, 5)
        texts = [(0, 0, 1, 2, 2, 0, 1), (2, 2, 2, 1, 0), (1, 2, 1, 2), (0, 2, 0, 2, 0)]
        self.hold(3, 2, 2, 5, [(text, tuple(cuts(rule, text))) for text in texts])
        whole = [(text, tuple(cuts(rule, text))) for text in [(0, 0, 0) + word for word in all_texts(3, 2)[-9:]]]
        self.hold(3, 2, 2, 5, whole)

    def test_long_texts(self):
        rule = Rule(2, 3, ((0, 1, 1),), 2, None)
        text = (0, 0, 1, 1, 1) * 80
        found = fitting(2, 3, 2, None, [(text, tuple(cuts(rule, text)))] * 12)
        self.assertEqual(found[1], [(0, 1, 1)])
        self.assertEqual(found[0], 2 ** (len(found[2]) - 1))
        self.assertEqual(fitting(2, 1, 1, None, [((1,) * 400, tuple(range(1, 401)))]), (2, [(1,)], [(0,), (1,)]))


class ErrorsTest(unittest.TestCase):
    def test_signs_window_and_lengths(self):
        for value in NO_NUMBERS + (None, 1, 4):
            with self.assertRaises(BadSigns):
                fitting(value, 1, 1, None, [])
        for value in NO_NUMBERS + (None, 4):
            with self.assertRaises(BadWindow):
                fitting(2, value, 1, None, [])
        for value in NO_NUMBERS + (None, 7):
            with self.assertRaises(BadLengths):
                fitting(2, 1, value, None, [])
        for value in NO_NUMBERS + (1, 9):
            with self.assertRaises(BadLengths):
                fitting(2, 1, 2, value, [])

    def test_too_many_words(self):
        with self.assertRaises(TooMany):
            fitting(3, 3, 1, None, [])
        for signs, window in ((2, 1), (2, 2), (2, 3), (3, 1), (3, 2)):
            self.assertEqual(fitting(signs, window, 1, None, [])[0], 2 ** signs ** window)

    def test_the_first_error(self):
        for values, error in (((4, 4, 7, 9, None), BadSigns), ((3, 4, 7, 9, None), BadWindow),
                              ((3, 3, 7, 9, None), BadLengths), ((3, 3, 6, 5, None), BadLengths),
                              ((3, 3, 6, 6, None), TooMany), ((3, 3, 6, 6, [None]), TooMany),
                              ((3, 2, 6, 6, None), BadSeen)):
            with self.assertRaises(error):
                fitting(*values)

    def index_of(self, seen):
        with self.assertRaises(BadSeen) as caught:
            fitting(2, 1, 1, None, seen)
        return caught.exception.index

    def test_no_list_or_tuple_of_at_most_12(self):
        for value in (None, True, False, 0, 1, "", "01", {}, {0: 0}, {((0,), ()): 1}, [((0,), ())] * 13,
                      (((0,), ()),) * 13, [None] * 13):
            self.assertIsNone(self.index_of(value), value)
        for value in ([((0,), ())] * 12, (((0,), ()),) * 12):
            self.assertEqual(fitting(2, 1, 1, None, value), (2, [], [(1,)]))

    def test_things_that_are_none(self):
        right = ((0, 1), (2,))
        for thing in (None, True, 0, "", "ab", (), [], {}, {0: 1, 1: 2}, ((0, 1),), ((0, 1), (2,), ()), [(0, 1), (2,)],
                      ([0, 1], (2,)), ((0, 1), [2]), ((0, 1), 2), ((0, 1), None), (None, (2,)), (0, 1), (0, ()),
                      ("01", (2,)), ((0, 1), "2"), ((0, 2), (2,)), ((0, -1), (2,)), ((0, True), (2,)),
                      ((False, 1), (2,)), ((0, "1"), (2,)), ((0, None), (2,)), ((0, (1,)), (2,)), ((0, 1), (3,)),
                      ((0, 1), (0,)), ((0, 1), (-1,)), ((0, 1), (True,)), ((0, 1), (True, 2)), ((0, 1), (1, 1)),
                      ((0, 1), (2, 2)), ((0, 1), (2, 1)), ((0, 1), ("2",)), ((0, 1), (None,)), ((0, 1), ((2,),)),
                      ((), (1,)), ((), (0,)), ((0,) * 401, ()), ((0,) * 401, (1,)), ((0, 1), {2: 2}), ({}, ())):
            self.assertEqual(self.index_of([thing]), 0, thing)
            self.assertEqual(self.index_of([right, right, thing]), 2, thing)
            self.assertEqual(self.index_of((right, thing, None)), 1, thing)

    def test_what_fits_nothing_is_still_looked_through(self):
        self.assertEqual(self.index_of([((0, 0), (2,)), None]), 1)
        self.assertEqual(self.index_of([None, ((0, 0), (2,))]), 0)


class CallsTest(unittest.TestCase):
    def test_calls_repeat_and_change_nothing(self):
        seen = [((0, 1), (2,)), ((1, 0), (1,))]
        first = fitting(2, 1, 1, None, seen)
        first[1].append("more")
        first[2].append("more")
        self.assertEqual(fitting(2, 1, 1, None, seen), (1, [(1,)], [(1,)]))
        none = fitting(2, 1, 1, None, [((0, 0), (2,))])
        none[1].append("more")
        self.assertEqual(fitting(2, 1, 1, None, [((0, 0), (2,))]), (0, [], []))
        self.assertEqual(seen, [((0, 1), (2,)), ((1, 0), (1,))])


if __name__ == "__main__":
    unittest.main()
