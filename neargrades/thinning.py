"""Thinning: rows of a paper go, as long as the others are let by and one row stays."""

from neargrades.descents import lifter_of
from neargrades.finding import Finder
from neargrades.judging import table_of_rows
from neargrades.systems import steps_of


class Thinner:
    """The grades of a paper that is let by, and the pairs whose rows have to stay."""

    def __init__(self, system, other, table, pair):
        self.kept = table
        # Without one of these the row of the pair that stays is not let by.
        self._staying = {pair: True}
        self._none = system.scale.none
        self._lifter = lifter_of(system, other, table)

    def try_without(self, pair):
        """Let the row of a pair go, and all that are not let by any longer then, if none of them has to stay.

        If it has to stay, it has to later on, too, when there are fewer rows: so no row is tried twice.
        """
        gone = {}
        going = [pair] if pair in self.kept else []
        while going and not any([one in self._staying for one in going]):
            for x, y in going:
                gone[(x, y)] = self.kept.pop((x, y))
                self._lifter.put(x, y, self._none)
            going = [(x, y) for (x, y), grade in self.kept.items() if not self._lifter.holds(grade, x, y)]
        if going:
            self._put_back(gone)
            self._staying[pair] = True

    def _put_back(self, gone):
        for (x, y), grade in gone.items():
            self.kept[(x, y)] = grade
            self._lifter.put(x, y, grade)


def thin_rows(system, other, rows, pair):
    """Some of the rows of a paper that is let by, in their order: let by, with the row of the pair, tight for it."""
    table = table_of_rows(rows)
    finder = Finder(system.kind, system.scale, steps_of(system), steps_of(other), table)
    found = finder.enough_for(pair[0], pair[1])
    thinner = Thinner(system, other, {one: table[one] for one in found}, pair)
    for one in found[1:]:
        thinner.try_without(one)
    return tuple([row for row in rows if row[:2] in thinner.kept])
