"""Worths of sayings at states and at values."""

from neargrades.lines import check_line_at, check_lines, lines_of
from neargrades.sayforms import STATES
from neargrades.sayings import checked_parts, shared
from neargrades.shelves import Plan
from neargrades.systems import check_state, steps_of
from neargrades.weighing import Weigher


def worth_at(system, x, saying):
    """The worth of a saying at a state."""
    lines = shared(system.kind, system.scale, saying)
    check_state(system, x)
    return _worths_of(system, lines, len(lines) - 1)[x]


def worths(system, saying):
    """A dict from all states, in order, to the worths of a saying at them."""
    lines = shared(system.kind, system.scale, saying)
    return _worths_of(system, lines, len(lines) - 1)


def _worths_of(system, lines, number):
    return Weigher(system, steps_of(system)).at_states(lines, number)


def value_worth(system, value, saying):
    """The worth of a saying about values of the system's kind at one of them."""
    checked_parts(Plan(system.kind), system.scale, saying, 0)
    lines = lines_of(saying)
    # States are strings: so 0 is a name that none of them has.
    return Weigher(system, {**steps_of(system), 0: value}).at_value(lines, len(lines) - 1, 0)


def line_worths(system, lines, number):
    """A dict as worths tells of the saying of a line."""
    check_lines(system.scale, lines, number)
    check_line_at(Plan(system.kind), lines, number, STATES)
    return _worths_of(system, lines, number)
