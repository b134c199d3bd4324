"""Told sayings, round by round, as lines: so nothing is done twice, however often it stands in them."""

from neargrades.kinds import SETS, SIDES
from neargrades.lines import LineBook
from neargrades.shelves import Plan, Shelf


class Teller:
    """The lines of c(0, x), c(1, x) and so on of some states, which lead to none but these."""

    def __init__(self, system, states, values):
        """Hold a dict from the states, and perhaps from more names, to values."""
        self._plan = Plan(system.kind)
        self._shelf = Shelf(self._plan, values)
        self._scale = system.scale
        self._book = LineBook()
        self.lines = self._book.lines
        # The numbers of the lines of what the states are told behind the rounds that are made, none so far.
        self.told = {x: self._book.number_for(self._scale.nearest) for x in states}
        self._begin_anew()

    def go_round(self):
        """Make one round; tell whether it changed what any state is told."""
        told = {x: self._book.number_for(("step", self.number_at(x))) for x in self.told}
        changed = told != self.told
        self.told = told
        self._begin_anew()
        return changed

    def number_at(self, name):
        """The number of the line of e(k, v), v the value that stands under a name, k the rounds that are made."""
        return self._line_of(0, self._shelf.roots[name])

    def _begin_anew(self):
        """For each stone a dict from the numbers of the parts there to those of their lines."""
        self._known = [{} for kind in self._plan.kinds]

    def _line_of(self, stone, number):
        known = self._known[stone]
        if number not in known:
            known[number] = self._put_down(stone, self._shelf.codes[stone][number])
        return known[number]

    def _put_down(self, stone, code):
        """Put down the lines of a part, those of its own parts first, and tell the number of its line."""
        word = self._plan.word(stone)
        parts = self._plan.parts[stone]
        if word in SETS:
            return self._put_down_set(word, parts[0], code)
        if word == "names":
            line = ("like", code)
        elif word == "next":
            line = ("now", self.told[code])
        elif word == "either":
            line = (SIDES[code[0]], self._line_of(parts[code[0]], code[1]))
        elif word == "row":
            line = ("rows", *[self._line_of(parts[0], number) for number in code])
        else:
            line = ("halves", self._line_of(parts[0], code[0]), self._line_of(parts[1], code[1]))
        return self._book.number_for(line)

    def _put_down_set(self, word, part, code):
        if word == "forth":
            return self._put_down_forth(part, code)
        if word == "back":
            return self._put_down_back(part, code)
        first = self._put_down_forth(part, code)
        return self._book.number_for(("and", first, self._put_down_back(part, code)))

    def _put_down_forth(self, part, code):
        numbers = []
        for number, grade in code:
            some = self._book.number_for(("some", self._line_of(part, number)))
            numbers.append(self._book.number_for(("if", grade, some)))
        return self._put_together("and", numbers, self._scale.nearest)

    def _put_down_back(self, part, code):
        numbers = [self._book.number_for(("by", grade, self._line_of(part, number))) for number, grade in code]
        return self._book.number_for(("all", self._put_together("or", numbers, self._scale.none)))

    def _put_together(self, word, numbers, empty):
        """The number of the line of all of, or one of, some lines: the first one, and the rest put together."""
        if not numbers:
            return self._book.number_for(empty)
        told = numbers[-1]
        for number in numbers[:-1][::-1]:
            told = self._book.number_for((word, number, told))
        return told
