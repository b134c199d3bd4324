"""Descents: rounds that lead from the first table to the nearness."""

from neargrades.lifters import Lifter
from neargrades.systems import steps_of


def lifter_of(system, other, table):
    """The lifted nearness of each two steps of two systems."""
    return Lifter(system.kind, system.scale, steps_of(system), steps_of(other), table)


class Descent:
    """Nearest at each of some pairs, a whole set of two systems, and what rounds make of it."""

    def __init__(self, system, other, pairs):
        self.table = {pair: system.scale.nearest for pair in pairs}
        self._lifter = lifter_of(system, other, self.table)

    def go_round(self):
        """Make one round; tell whether it changed the table."""
        changes = {(x, y): self._lifter.lifted(x, y) for x, y in self.table
                   if self._lifter.lifted(x, y) != self.table[(x, y)]}
        for (x, y), grade in changes.items():
            self.table[(x, y)] = grade
            self._lifter.put(x, y, grade)
        return len(changes) > 0

    def go_on(self):
        """Make rounds until one changes nothing; tell how many changed the table."""
        count = 0
        while self.go_round():
            count += 1
        return count

    def copied(self):
        """A new dict of the table."""
        return {pair: self.table[pair] for pair in self.table}
