"""A reader of texts that stops at the first sign that cannot stand."""

from neargrades.errors import BadText
from neargrades.words import LETTERS, LONGEST, SIGNS

GRADE_SIGNS = "abcdefghijklmnopqrstuvwxyz0123456789/"


class Reader:
    """Goes through a text once; its place is the number of signs that are read."""

    def __init__(self, text):
        self.text = text
        self.place = 0

    def stands(self, sign):
        """Whether one sign stands at the place."""
        return self.text[self.place:self.place + 1] == sign

    def choose(self, openings):
        """Read one of some strings, none of which begins another one, and return it."""
        fits = [_common(self.text, self.place, opening) for opening in openings]
        longest = max(fits)
        opening = openings[fits.index(longest)]
        self.place += longest
        if longest < len(opening):
            raise BadText(self.place)
        return opening

    def expect(self, opening):
        """Read just this string."""
        self.choose((opening,))

    def take_word(self):
        """Read a word, which ends behind 12 signs."""
        if not self._stands_among(LETTERS):
            raise BadText(self.place)
        return self._take_run(SIGNS, LONGEST)

    def take_grade(self):
        """Read a run of one or more signs that may stand in a grade."""
        if not self._stands_among(GRADE_SIGNS):
            raise BadText(self.place)
        return self._take_run(GRADE_SIGNS, len(self.text))

    def close(self):
        """See that nothing stands behind what was read."""
        if self.place < len(self.text):
            raise BadText(self.place)

    def _stands_among(self, signs):
        return self.place < len(self.text) and self.text[self.place] in signs

    def _take_run(self, signs, most):
        start = self.place
        while self.place - start < most and self._stands_among(signs):
            self.place += 1
        return self.text[start:self.place]


def _common(text, place, opening):
    """The number of signs that the opening has in common with the text from the place on."""
    count = 0
    while count < len(opening) and text[place + count:place + count + 1] == opening[count]:
        count += 1
    return count
