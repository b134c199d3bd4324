"""Blocks: lists of states, each state in one of them."""

from neargrades.errors import BadBlocks, NotLike
from neargrades.likeness import are_near
from neargrades.words import is_row


def check_blocks_by(system, table, e, blocks):
    """Raise BadBlocks or NotLike unless any value is blocks of like states, by the table of a system's nearness."""
    if not _are_blocks(system, blocks):
        raise BadBlocks()
    firsts = firsts_of(system, blocks)
    for x, p in firsts.items():
        if not are_near(system.scale, e, table[(p, x)], table[(x, p)]):
            raise NotLike((p, x))


def _are_blocks(system, blocks):
    """Whether any value is a list of lists, none of them empty, in which each state of a system stands once."""
    if not is_row(blocks) or not all([is_row(block) and len(block) > 0 for block in blocks]):
        return False
    states = [x for block in blocks for x in block]
    if not all([x in system for x in states]):
        return False
    return len(states) == len(system) and len({x: True for x in states}) == len(states)


def firsts_of(system, blocks):
    """A dict from the states of a system, in order, to the first states of their blocks."""
    homes = {x: block for block in blocks for x in block}
    firsts = {}
    for x in system.states():
        # The states of a block that come earlier have led to its first one already.
        known = [firsts[y] for y in homes[x] if y in firsts]
        firsts[x] = known[0] if known else x
    return firsts
