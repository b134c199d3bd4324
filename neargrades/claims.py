"""Claims in a yard: held, broken or open, with what shows it."""

from neargrades.asking import nearness_on
from neargrades.branches import tried
from neargrades.deeds import check_states
from neargrades.errors import NotTold, OpenState
from neargrades.papers import paper_of
from neargrades.residues import within
from neargrades.rounds import near
from neargrades.systems import System, all_reached
from neargrades.told import parting_lines
from neargrades.values import states_in


def open_states(yard, number, x, y):
    """The list of the states reached from two states that are not told."""
    steps = yard.moment(number)[0]
    check_states(yard.states(), [x, y])
    return [z for z in _reached(yard, steps, [x, y]) if z not in steps]


def _reached(yard, steps, states):
    """The list of the states that are reached from some states, in the yard's order."""
    reached = all_reached(states, lambda x: states_in(yard.kind, steps[x]) if x in steps else [])
    return [x for x in yard.states() if x in reached]


def system_at(yard, number, x, y):
    """The system of the states reached from two states."""
    waiting = open_states(yard, number, x, y)
    if waiting:
        raise OpenState(waiting[0])
    steps = yard.moment(number)[0]
    return _system_of(yard, steps, _reached(yard, steps, [x, y]))


def _system_of(yard, steps, states):
    """The system of some told states, which lead to none but these."""
    return System(yard.scale, yard.kind, states, {x: steps[x] for x in states})


def near_at(yard, number, x, y):
    """The nearness of two states at a moment."""
    system = system_at(yard, number, x, y)
    return near(system, system, x, y)


def verdict(yard, number, x, y):
    """What becomes of the claim about a pair: ("held", paper), ("broken", (lines, number)) or ("open", states)."""
    waiting = open_states(yard, number, x, y)
    claimed = _grades_claimed(yard, number)
    if (x, y) not in claimed:
        raise NotTold((x, y))
    if waiting:
        return ("open", tuple(waiting))
    grade = claimed[(x, y)]
    system = system_at(yard, number, x, y)
    shown = parting_lines(system, system, x, y, grade)
    if shown is not None:
        return ("broken", (tuple(shown[0]), shown[1]))
    return ("held", () if grade == yard.scale.none else paper_of(system, system, [(x, y)]))


def _grades_claimed(yard, number):
    """A dict from the pairs of which something is claimed, in order, to the grades."""
    return {(x, y): grade for x, y, grade in yard.moment(number)[1]}


def verdicts(yard, number):
    """The list of the (x, y, word) of all claims."""
    return [(x, y, word) for (x, y), word in _words(yard, number).items()]


def _words(yard, number):
    """A dict from the pairs of which something is claimed, in order, to what becomes of it."""
    steps = yard.moment(number)[0]
    claimed = _grades_claimed(yard, number)
    # These lead to none but themselves: so one nearness among them tells of all pairs that are whole.
    whole = [x for x in yard.states() if all([z in steps for z in _reached(yard, steps, [x])])]
    system = _system_of(yard, steps, whole)
    pairs = [(x, y) for x, y in claimed if x in system and y in system]
    table = nearness_on(system, system, pairs)[0]
    return {pair: _word_of_claim(yard.scale, grade, table.get(pair)) for pair, grade in claimed.items()}


def _word_of_claim(scale, claimed, grade):
    """The word of a claim; grade is the nearness of the pair, None if it is not whole."""
    if grade is None:
        return "open"
    return "held" if within(scale, claimed, grade) else "broken"


def would_change(yard, deeds):
    """The list of the (x, y, before, behind) of all pairs whose word would be another one behind some deeds."""
    other = yard.twin()
    tried(other, deeds)
    before = _words(yard, yard.present())
    behind = _words(other, other.present())
    return [(x, y, before.get((x, y)), behind.get((x, y))) for x in yard.states() for y in yard.states()
            if before.get((x, y)) != behind.get((x, y))]
