"""What pairs of states two values look at, and the sets of pairs that are whole."""

from neargrades.kinds import SETS, SIDES, item_kinds, side_kind
from neargrades.pairs import all_pairs, check_pair


def _spots(kind, value):
    """A dict from places of the kind to dicts of the states that stand there in the value.

    Places tell halves, sides and letters, and pass over entries: of two sets all entries are looked at
    together. So two values look at all pairs of states that stand at the same place in them.
    """
    told = {}
    waiting = [(kind, value, ())]
    while waiting:
        part, inner, place = waiting.pop()
        if part[0] == "next":
            states = told.setdefault(place, {})
            states[inner] = True
        else:
            waiting.extend(_inner_spots(part, inner, place))
    return told


def _inner_spots(kind, value, place):
    """The list of the (kind, value, place) of what stands directly in a value."""
    if kind[0] == "either":
        return [(side_kind(kind, value[0]), value[1], (*place, SIDES.index(value[0])))]
    if kind[0] in SETS:
        return [(kind[1], inner, (*place, 0)) for inner, grade in value]
    kinds = item_kinds(kind)
    return [(kinds[k], value[k], (*place, k)) for k in range(len(kinds))]


def whole_set(system, other, pairs):
    """The least whole set that has some pairs, as a list in order."""
    spots = {x: _spots(system.kind, system.step(x)) for x in system.states()}
    others = {y: _spots(other.kind, other.step(y)) for y in other.states()}
    found = {}
    waiting = [(x, y) for x, y in pairs]
    while waiting:
        pair = waiting.pop()
        if pair not in found:
            found[pair] = True
            waiting.extend(_looked_at(spots[pair[0]], others[pair[1]]))
    return [pair for pair in all_pairs(system, other) if pair in found]


def _looked_at(spots, others):
    """The list of the pairs of states at the same places."""
    return [(x, y) for place in spots if place in others for x in spots[place] for y in others[place]]


def check_pairs(system, other, pairs):
    """Raise UnknownState for the first x or y, pair by pair, that is no state."""
    for x, y in pairs:
        check_pair(system, other, x, y)
