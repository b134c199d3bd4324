"""Folds: each block of like states becomes one state, and papers tell how near it is."""

from neargrades.blocks import check_blocks_by, firsts_of
from neargrades.likeness import check_idempotent, classes_by
from neargrades.rounds import nearness
from neargrades.systems import made_system
from neargrades.values import led_value


def folded(system, e, *, blocks=None):
    """The system of the first states of the blocks; None stands for the classes at e."""
    firsts = _nearness_and_firsts(system, e, blocks)[1]
    states = _left(firsts)
    steps = {p: led_value(system.kind, system.scale, states, system.step(p), firsts) for p in states}
    return made_system(system.scale, system.kind, states, steps)


def fold_paper(system, e, *, blocks=None):
    """The table paper from the system to the folded one."""
    table, firsts = _nearness_and_firsts(system, e, blocks)
    return _rows_with(system.scale, table, e, [(x, p) for x in firsts for p in _left(firsts)])


def unfold_paper(system, e, *, blocks=None):
    """The table paper from the folded system to the system."""
    table, firsts = _nearness_and_firsts(system, e, blocks)
    return _rows_with(system.scale, table, e, [(p, x) for p in _left(firsts) for x in firsts])


def _nearness_and_firsts(system, e, blocks):
    """The table of the nearness in a system, and a dict from its states to the first states of their blocks."""
    check_idempotent(system.scale, e)
    table = nearness(system, system)[0]
    if blocks is None:
        return table, firsts_of(system, classes_by(system, table, e))
    check_blocks_by(system, table, e, blocks)
    return table, firsts_of(system, blocks)


def _left(firsts):
    """The list of the states that are the first ones of their blocks, in order."""
    return [x for x, p in firsts.items() if x == p]


def _rows_with(scale, table, e, pairs):
    """The rows of some pairs with their nearness times e, those with none left out."""
    rows = [(x, y, scale.then(table[(x, y)], e)) for x, y in pairs]
    return tuple([row for row in rows if row[2] != scale.none])
