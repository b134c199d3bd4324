"""Pairs of states of two systems."""

from neargrades.systems import check_state


def is_pair(system, other, value):
    """Whether any value is a pair of the two systems."""
    return isinstance(value, tuple) and len(value) == 2 and value[0] in system and value[1] in other


def check_pair(system, other, x, y):
    """Raise UnknownState for x, then for y, any values, unless they are states."""
    check_state(system, x)
    check_state(other, y)


def all_pairs(system, other):
    """The list of all pairs of two systems, in order."""
    return [(x, y) for x in system.states() for y in other.states()]
