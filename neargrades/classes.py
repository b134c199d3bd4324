"""Classes of states that are like at an idempotent grade, and blocks, each of which lies within one."""

from neargrades.blocks import check_blocks_by
from neargrades.likeness import are_near, check_idempotent, classes_by
from neargrades.residues import idempotent
from neargrades.rounds import nearness
from neargrades.systems import check_like, check_state


def classes(system, e):
    """The list of the classes of states that are like at an idempotent grade."""
    check_idempotent(system.scale, e)
    return classes_by(system, nearness(system, system)[0], e)


def first_of(system, e, x):
    """The first state of the class of a state."""
    check_idempotent(system.scale, e)
    check_state(system, x)
    return [block[0] for block in classes(system, e) if x in block][0]


def all_classes(system):
    """The list of the (e, classes at e) of all idempotent grades."""
    table = nearness(system, system)[0]
    return [(e, classes_by(system, table, e)) for e in idempotent(system.scale)]


def partners(system, other, e):
    """A dict from the states of a system to the first states of another one that are like them at a grade, or None."""
    check_like(system, other)
    check_idempotent(system.scale, e)
    table = nearness(system, other)[0]
    back = nearness(other, system)[0]
    told = {}
    for x in system.states():
        likes = [y for y in other.states() if are_near(system.scale, e, table[(x, y)], back[(y, x)])]
        told[x] = likes[0] if likes else None
    return told


def check_blocks(system, e, blocks):
    """Raise an error unless any value is blocks of a system, each of states that are like its first one at a grade."""
    check_idempotent(system.scale, e)
    check_blocks_by(system, nearness(system, system)[0], e, blocks)
