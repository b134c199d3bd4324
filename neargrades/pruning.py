"""Pruning: members of sets that the others stand for are left out."""

from neargrades.kinds import SETS, item_kinds, side_kind
from neargrades.lifters import Lifter
from neargrades.residues import within
from neargrades.rounds import nearness
from neargrades.systems import made_system


class Members:
    """The members of a set, and how near they are to one another."""

    def __init__(self, kind, scale, table, members):
        """Hold the kind of the set, and a table of states."""
        self._word = kind[0]
        self._scale = scale
        self._weights = [grade for inner, grade in members]
        values = {k: members[k][0] for k in range(len(members))}
        self._lifter = Lifter(kind[1], scale, values, values, table)

    def is_needless(self, k, others):
        """Whether others stand for the member number k.

        Each of the others stands for itself. So the set with this member and the set without it are nearest both
        ways just if what the others give this one reaches its own grade.
        """
        if self._word != "back" and not self._reaches(k, [(self._lifter.lifted(k, j), j) for j in others]):
            return False
        return self._word == "forth" or self._reaches(k, [(self._lifter.lifted(j, k), j) for j in others])

    def _reaches(self, k, told):
        """Whether the grade of a member is within the join of what some (nearness, number) of others give it."""
        gives = [self._scale.then(grade, self._weights[j]) for grade, j in told]
        return within(self._scale, self._weights[k], self._scale.joined(gives))

    def all_needless(self):
        """The list of the numbers of the members for which all others stand."""
        numbers = list(range(len(self._weights)))
        return [k for k in numbers if self.is_needless(k, [j for j in numbers if j != k])]

    def left_over(self):
        """The list of the numbers of members that are left when needless ones go one by one.

        A member that has to stay has to later on, too, when there are fewer others: so each is tried once.
        """
        numbers = list(range(len(self._weights)))
        for k in list(numbers):
            others = [j for j in numbers if j != k]
            if self.is_needless(k, others):
                numbers = others
        return numbers


def needless(system, x):
    """The list of the (path, k) of the members of outer sets of a step without which it is as near."""
    outer = _outer_sets(system.kind, system.step(x), ())
    table = nearness(system, system)[0]
    told = []
    for path, kind, members in outer:
        told.extend([(path, k) for k in Members(kind, system.scale, table, members).all_needless()])
    return told


def _outer_sets(kind, value, path):
    """The list of the (path, kind, set) of the sets in a value that stand within no member of another one."""
    word = kind[0]
    if word in SETS:
        return [(path, kind, value)]
    if word == "either":
        return _outer_sets(side_kind(kind, value[0]), value[1], (*path, 0))
    kinds = item_kinds(kind)
    return [found for k in range(len(kinds)) for found in _outer_sets(kinds[k], value[k], (*path, k))]


def pruned(system):
    """The system without members of outer sets for which others stand."""
    table = nearness(system, system)[0]
    steps = {x: _pruned_value(system.kind, system.scale, table, system.step(x)) for x in system.states()}
    return made_system(system.scale, system.kind, system.states(), steps)


def _pruned_value(kind, scale, table, value):
    word = kind[0]
    if word in SETS:
        return tuple([value[k] for k in Members(kind, scale, table, value).left_over()])
    if word in ("names", "next"):
        return value
    if word == "either":
        return (value[0], _pruned_value(side_kind(kind, value[0]), scale, table, value[1]))
    kinds = item_kinds(kind)
    return tuple([_pruned_value(kinds[k], scale, table, value[k]) for k in range(len(kinds))])
