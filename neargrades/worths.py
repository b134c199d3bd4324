"""Worths of sayings at states and at values."""

from neargrades.lines import check_lines, checked_places, line_places, lines_of
from neargrades.sayforms import STATES
from neargrades.sayings import checked_parts, shared
from neargrades.shelves import Plan
from neargrades.systems import check_state, steps_of
from neargrades.weighing import Weigher


def worth_at(system, x, saying):
    """The worth of a saying at a state."""
    lines = shared(system.kind, system.scale, saying)
    check_state(system, x)
    return _worths_of(system, lines)[x]


def worths(system, saying):
    """A dict from all states, in order, to the worths of a saying at them."""
    return _worths_of(system, shared(system.kind, system.scale, saying))


def _worths_of(system, lines):
    """The worths of the saying of the last one of right lines."""
    places = line_places(Plan(system.kind), lines, len(lines) - 1, STATES)
    return Weigher(system, steps_of(system)).at_states(lines, places)


def value_worth(system, value, saying):
    """The worth of a saying about values of the system's kind at one of them."""
    plan = Plan(system.kind)
    checked_parts(plan, system.scale, saying, 0)
    lines = lines_of(saying)
    places = line_places(plan, lines, len(lines) - 1, 0)
    # States are strings: so 0 is a name that none of them has.
    return Weigher(system, {**steps_of(system), 0: value}).at_value(lines, places, 0)


def line_worths(system, lines, number):
    """A dict as worths tells of the saying of a line."""
    return worths_of_line([system], lines, number)[0]


def worths_of_line(systems, lines, number):
    """The list of what line_worths tells for some systems of one scale and kind, which look at the lines once."""
    check_lines(systems[0].scale, lines, number)
    places = checked_places(Plan(systems[0].kind), lines, number, STATES)
    return [Weigher(system, steps_of(system)).at_states(lines, places) for system in systems]
