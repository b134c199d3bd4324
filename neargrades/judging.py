"""The judge of table papers."""

from neargrades.descents import lifter_of
from neargrades.errors import BadPaper
from neargrades.pairs import is_pair
from neargrades.systems import check_like


def judge_paper(system, other, value):
    """None if the paper is let by, else what is wrong first: ("row", k) or ("open", x, y)."""
    check_like(system, other)
    if not isinstance(value, tuple):
        raise BadPaper()
    wrong = first_wrong_row(system, other, value)
    if wrong is not None:
        return ("row", wrong)
    pair = first_open_pair(lifter_of(system, other, table_of_rows(value)), value)
    return None if pair is None else ("open", *pair)


def first_wrong_row(system, other, rows):
    """The number of the first one of some values that is no row or whose pair stands earlier, None if none is."""
    seen = {}
    for k in range(len(rows)):
        if not _is_row(system, other, rows[k]) or rows[k][:2] in seen:
            return k
        seen[rows[k][:2]] = True
    return None


def _is_row(system, other, value):
    """Whether any value is a tuple (x, y, grade)."""
    if not isinstance(value, tuple) or len(value) != 3:
        return False
    return is_pair(system, other, value[:2]) and value[2] in system.scale


def table_of_rows(rows):
    """The table of the rows alone, in their order."""
    return {(x, y): grade for x, y, grade in rows}


def first_open_pair(lifter, rows):
    """The pair of the first row whose grade the lifter does not hold, None if it holds all."""
    for x, y, grade in rows:
        if not lifter.holds(grade, x, y):
            return (x, y)
    return None


def paper_table(system, other, value):
    """The table of a table paper, let by or not."""
    check_like(system, other)
    if not isinstance(value, tuple) or first_wrong_row(system, other, value) is not None:
        raise BadPaper()
    return table_of_rows(value)
