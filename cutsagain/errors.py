"""The errors of the package, one class for each kind of wrong value."""


class CutError(ValueError):
    """The base class of all errors of the package."""


class BadSigns(CutError):
    """The number of signs is neither 2 nor 3."""


class BadWindow(CutError):
    """The window is no integer from 1 to 3."""


class BadLengths(CutError):
    """least or most is none of the lengths that are allowed."""


class BadText(CutError):
    """A value is no text of the rule."""


class BadNumber(CutError):
    """A number is not in its range."""


class Unlike(CutError):
    """Two rules have unlike numbers of signs."""


class TooMany(CutError):
    """There are more things than can be told about."""


class BadWords(CutError):
    """The words are no tuple (index None), or the one at the index cannot stand there."""

    def __init__(self, index):
        self.index = index


class BadSeen(CutError):
    """What was seen is no short list (index None), or the thing at the index is no text with its places."""

    def __init__(self, index):
        self.index = index


class BadLine(CutError):
    """A line of a rule's text cannot stand there; lines and words are counted from 1."""

    def __init__(self, line, word):
        self.line = line
        self.word = word
