"""Systems: states with their steps."""

from neargrades.errors import (
    BadName, MixedKinds, MixedScales, NoStep, OpenState, UnknownState,
)
from neargrades.kinds import check_kind
from neargrades.values import led_value, states_in, value_of
from neargrades.words import check_unlike, check_words, is_word


class System:
    """A scale, a kind, a list of states that are words, and for each of them its step."""

    def __init__(self, scale, kind, states, steps):
        check_kind(kind, scale)
        check_words(states)
        self.scale = scale
        self.kind = kind
        self._states = tuple(states)
        self._steps = _told_steps(scale, kind, states, steps)

    def __contains__(self, x):
        return isinstance(x, str) and x in self._steps

    def __len__(self):
        return len(self._states)

    def __eq__(self, other):
        return (isinstance(other, System) and self.scale == other.scale and self.kind == other.kind
                and self._states == other._states and self._steps == other._steps)

    def states(self):
        """The list of the states, in order."""
        return list(self._states)

    def step(self, x):
        """The step of a state."""
        if x not in self:
            raise UnknownState(x)
        return self._steps[x]


def _told_steps(scale, kind, states, steps):
    """A dict from the states, in order, to the values that the data of steps tell."""
    for name in sorted(list(steps)):
        if name not in states:
            raise UnknownState(name)
    for name in states:
        if name not in steps:
            raise NoStep(name)
    return {name: value_of(kind, scale, states, steps[name]) for name in states}


def made_system(scale, kind, states, steps):
    """The system, whose states may be any strings."""
    system = System(scale, kind, [], {})
    for name in states:
        if not isinstance(name, str):
            raise BadName(name)
    check_unlike(states)
    system._states = tuple(states)
    system._steps = _told_steps(scale, kind, states, steps)
    return system


def steps_of(system):
    """A dict from the states of a system, in order, to their steps."""
    return {x: system.step(x) for x in system.states()}


def check_like(system, other):
    """Raise MixedScales, then MixedKinds, unless two systems have one scale and one kind."""
    if system.scale != other.scale:
        raise MixedScales()
    if system.kind != other.kind:
        raise MixedKinds()


def check_state(system, x):
    """Raise UnknownState unless x, any value, is a state."""
    if x not in system:
        raise UnknownState(x)


def _next_states(system, x):
    """The states that a state leads to."""
    return states_in(system.kind, system.step(x))


def all_reached(states, leads):
    """A dict of all that is reached from some states; leads tells the list of the states that one leads to."""
    reached = {}
    waiting = list(states)
    while waiting:
        x = waiting.pop()
        if x not in reached:
            reached[x] = True
            waiting.extend(leads(x))
    return reached


def reached_from(system, states):
    """The list of the states that are reached from some states, in the system's order."""
    for x in states:
        check_state(system, x)
    reached = all_reached(states, lambda x: _next_states(system, x))
    return [x for x in system.states() if x in reached]


def part_from(system, states):
    """The system of just the states that are reached from some states."""
    part = reached_from(system, states)
    return made_system(system.scale, system.kind, part, {x: system.step(x) for x in part})


def summed(system, other):
    """The sum of two systems of one scale and kind."""
    check_like(system, other)
    first = {x: "l." + x for x in system.states()}
    second = {x: "r." + x for x in other.states()}
    states = list(first.values()) + list(second.values())
    steps = {**_led_steps(system, states, first), **_led_steps(other, states, second)}
    return made_system(system.scale, system.kind, states, steps)


def _led_steps(system, states, images):
    """A dict from the images of a system's states to their steps, led along the images."""
    return {images[x]: led_value(system.kind, system.scale, states, system.step(x), images) for x in system.states()}


def both_side(system, other):
    """Two systems of one scale side by side."""
    if system.scale != other.scale:
        raise MixedScales()
    states = [_beside(x, y) for x in system.states() for y in other.states()]
    steps = {_beside(x, y): _step_of_both(system, other, states, x, y)
             for x in system.states() for y in other.states()}
    return made_system(system.scale, ("both", system.kind, other.kind), states, steps)


def _beside(x, y):
    return x + "," + y


def _step_of_both(system, other, states, x, y):
    """The steps of x and of y, each led to where the other state stays."""
    left = {z: _beside(z, y) for z in system.states()}
    right = {z: _beside(x, z) for z in other.states()}
    return (led_value(system.kind, system.scale, states, system.step(x), left),
            led_value(other.kind, other.scale, states, other.step(y), right))


def with_step(system, name, data):
    """The system in which a state, perhaps a new one, has the step that data tell."""
    states = system.states()
    if name not in system:
        if not is_word(name):
            raise BadName(name)
        states.append(name)
    return made_system(system.scale, system.kind, states, {**steps_of(system), name: data})


def without_state(system, name):
    """The system without a state that no other one leads to."""
    check_state(system, name)
    states = [x for x in system.states() if x != name]
    for x in states:
        if name in _next_states(system, x):
            raise OpenState(x)
    return made_system(system.scale, system.kind, states, {x: system.step(x) for x in states})
