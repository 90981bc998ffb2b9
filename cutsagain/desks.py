"""A desk, at which a text is told bit by bit, and tellings are taken back."""

from cutsagain.checks import check_text
from cutsagain.rules import cuts


class Desk:
    """A text that grows by tellings, and its cuts by one rule."""

    def __init__(self, rule):
        self._rule = rule
        self._text = ()
        self._begins = []

    @property
    def rule(self):
        return self._rule

    @property
    def text(self):
        return self._text

    def __len__(self):
        return len(self._begins)

    def tell(self, signs):
        """Tell further signs; the list of the places of the cuts that come by them."""
        check_text(signs, self._rule.signs)
        begin = len(self._text)
        places = cuts(self._rule, self._text + signs)
        # What follows cannot fail: the whole text was found to be right above.
        self._begins.append(begin)
        self._text = self._text + signs
        return [place for place in places if place > begin]

    def places(self):
        """The places of all cuts."""
        return cuts(self._rule, self._text)

    def waits(self):
        """The signs behind the last cut."""
        begin = max(self.places(), default=0)
        return self._text[begin:]

    def undo(self):
        """Take the last telling back; whether there was one."""
        if len(self._begins) == 0:
            return False
        self._text = self._text[:self._begins.pop()]
        return True

    def copy(self):
        """An independent desk that stands as this one."""
        other = Desk(self._rule)
        other._text = self._text
        other._begins = list(self._begins)
        return other
