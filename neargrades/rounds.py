"""The nearness of two systems, round by round."""

from neargrades.descents import Descent, lifter_of
from neargrades.errors import BadTable, UnknownGrade
from neargrades.looking import whole_set
from neargrades.pairs import all_pairs, check_pair, is_pair
from neargrades.residues import within
from neargrades.systems import check_like


def _check_table(system, other, table):
    """Raise BadTable, then UnknownGrade, unless any value is a table of pairs of the two systems."""
    if not isinstance(table, dict) or not all([is_pair(system, other, key) for key in table]):
        raise BadTable()
    for grade in table.values():
        if grade not in system.scale:
            raise UnknownGrade(grade)


def stepped(system, other, table, x, y):
    """The lifted nearness of the steps of two states by a table."""
    check_like(system, other)
    check_pair(system, other, x, y)
    _check_table(system, other, table)
    return lifter_of(system, other, table).lifted(x, y)


def first_table(system, other):
    """The table that has nearest at each pair."""
    check_like(system, other)
    return {pair: system.scale.nearest for pair in all_pairs(system, other)}


def round_of(system, other, table):
    """The table behind one round: at each pair the lifted nearness of the steps."""
    check_like(system, other)
    _check_table(system, other, table)
    lifter = lifter_of(system, other, table)
    return {(x, y): lifter.lifted(x, y) for x, y in all_pairs(system, other)}


def tables(system, other, count):
    """The list of the first table and of those behind 1, 2 and so on to count rounds."""
    check_like(system, other)
    descent = Descent(system, other, all_pairs(system, other))
    told = [descent.copied()]
    for _ in range(count):
        descent.go_round()
        told.append(descent.copied())
    return told


def nearness(system, other):
    """The table that no further round changes, and the number of rounds that lead to it."""
    check_like(system, other)
    descent = Descent(system, other, all_pairs(system, other))
    rounds = descent.go_on()
    return descent.copied(), rounds


def near(system, other, x, y):
    """The nearness of two states."""
    check_like(system, other)
    check_pair(system, other, x, y)
    descent = Descent(system, other, whole_set(system, other, [(x, y)]))
    descent.go_on()
    return descent.table[(x, y)]


def first_open(system, other, table):
    """The first pair whose grade is not within what a round gives it, None if the table is closed."""
    check_like(system, other)
    _check_table(system, other, table)
    lifter = lifter_of(system, other, table)
    for x, y in all_pairs(system, other):
        if not lifter.holds(table.get((x, y), system.scale.none), x, y):
            return (x, y)
    return None


def round_below(system, other, x, y, grade):
    """The least number of rounds behind which a grade is not within that of the pair, None if there is none."""
    check_like(system, other)
    check_pair(system, other, x, y)
    if grade not in system.scale:
        raise UnknownGrade(grade)
    descent = Descent(system, other, whole_set(system, other, [(x, y)]))
    count = 0
    while within(system.scale, grade, descent.table[(x, y)]):
        if not descent.go_round():
            return None
        count += 1
    return count
