"""Ladders: papers each of which rests on the one ahead of it."""

from neargrades.asking import whole_pairs
from neargrades.descents import Descent, lifter_of
from neargrades.errors import BadPaper
from neargrades.judging import first_open_pair, first_wrong_row, table_of_rows
from neargrades.systems import check_like


def judge_ladder(system, other, value):
    """None if the ladder is right, else what is wrong first: ("row", j, k) or ("open", j, x, y)."""
    check_like(system, other)
    if not isinstance(value, tuple) or not value or not all([isinstance(step, tuple) for step in value]):
        raise BadPaper()
    for j in range(len(value)):
        wrong = first_wrong_row(system, other, value[j])
        if wrong is not None:
            return ("row", j, wrong)
    return _first_open(system, other, value)


def _first_open(system, other, steps):
    """("open", j, x, y) for the first row that does not rest on the step ahead of it, None if all do."""
    lifter = lifter_of(system, other, table_of_rows(steps[0]))
    for j in range(1, len(steps)):
        pair = first_open_pair(lifter, steps[j])
        if pair is not None:
            return ("open", j, *pair)
        _lead(lifter, system.scale.none, steps[j - 1], steps[j])
    return None


def _lead(lifter, none, rows, following):
    """Lead a lifter from the table of some rows to that of those that follow."""
    for x, y, _ in rows:
        lifter.put(x, y, none)
    for x, y, grade in following:
        lifter.put(x, y, grade)


def ladder_of(system, other, pairs, rounds):
    """The ladder that tells the grades of the whole pairs behind 0, 1 and so on to so many rounds."""
    descent = Descent(system, other, whole_pairs(system, other, pairs))
    steps = [_rows_left(descent.table, system.scale.none)]
    for _ in range(rounds):
        descent.go_round()
        steps.append(_rows_left(descent.table, system.scale.none))
    return tuple(steps)


def _rows_left(table, none):
    """The rows of a table, those with none left out."""
    return tuple([(x, y, grade) for (x, y), grade in table.items() if grade != none])
