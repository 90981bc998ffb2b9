import unittest

from cutsagain import errors

PLAIN = ("BadSigns", "BadWindow", "BadLengths", "BadText", "BadNumber", "Unlike", "TooMany")


class ErrorsTest(unittest.TestCase):
    def test_all_are_direct_subclasses_of_the_base_class(self):
        self.assertEqual(errors.CutError.__bases__, (ValueError,))
        for name in PLAIN + ("BadWords", "BadSeen", "BadLine"):
            self.assertEqual(getattr(errors, name).__bases__, (errors.CutError,), name)

    def test_plain_errors_are_raised_with_and_without_words(self):
        for name in PLAIN:
            for told in ((), ("some words",)):
                with self.assertRaises(errors.CutError) as caught:
                    raise getattr(errors, name)(*told)
                self.assertEqual(caught.exception.__class__.__name__, name)

    def test_errors_with_an_index_keep_it(self):
        for name in ("BadWords", "BadSeen"):
            for index in (0, 7, None):
                self.assertEqual(getattr(errors, name)(index).index, index)
                self.assertEqual(getattr(errors, name)(index=index).index, index)

    def test_bad_line_keeps_line_and_word(self):
        for error in (errors.BadLine(3, 0), errors.BadLine(line=3, word=0)):
            self.assertEqual((error.line, error.word), (3, 0))


if __name__ == "__main__":
    unittest.main()
