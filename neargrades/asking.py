"""The nearness of just the pairs that are asked for, and the nearness pair by pair."""

from neargrades.descents import Descent, lifter_of
from neargrades.errors import BadTable
from neargrades.looking import check_pairs, whole_set
from neargrades.pairs import all_pairs, is_pair
from neargrades.systems import check_like
from neargrades.words import is_row


def whole_pairs(system, other, pairs):
    """The least whole set of pairs that has these, as a list in order."""
    check_like(system, other)
    check_pairs(system, other, pairs)
    return whole_set(system, other, pairs)


def nearness_on(system, other, pairs):
    """The nearness of the whole pairs alone, and the number of rounds that lead to it."""
    descent = Descent(system, other, whole_pairs(system, other, pairs))
    rounds = descent.go_on()
    return descent.copied(), rounds


def nearness_one_by_one(system, other, order):
    """The nearness, and the number of passes through the order of pairs that changed something."""
    check_like(system, other)
    _check_order(system, other, order)
    table = {pair: system.scale.nearest for pair in all_pairs(system, other)}
    lifter = lifter_of(system, other, table)
    passes = 0
    while _pass_through(lifter, table, order):
        passes += 1
    return table, passes


def _check_order(system, other, order):
    """Raise BadTable unless any value is a list that has each pair once."""
    if not is_row(order) or not all([is_pair(system, other, pair) for pair in order]):
        raise BadTable()
    unlike = {pair: True for pair in order}
    if len(unlike) != len(order) or len(order) != len(system) * len(other):
        raise BadTable()


def _pass_through(lifter, table, order):
    """Give each pair, one behind the other, what a round would give it; tell whether that changed the table."""
    changed = False
    for x, y in order:
        grade = lifter.lifted(x, y)
        if grade != table[(x, y)]:
            table[(x, y)] = grade
            lifter.put(x, y, grade)
            changed = True
    return changed
