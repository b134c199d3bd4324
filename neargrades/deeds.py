"""Deeds, and what they and merges make of moments."""

from neargrades.errors import BadDeed, NotTold, UnknownGrade, UnknownState
from neargrades.pasts import Moment
from neargrades.values import value_of

# How many items each form of deeds has, and how many of them are states.
LENGTHS = {"tell": 3, "drop": 2, "claim": 4, "withdraw": 3}
STATE_COUNTS = {"tell": 1, "drop": 1, "claim": 2, "withdraw": 2}


def check_states(states, names):
    """Raise UnknownState for the first of some names, any values, that is none of the states."""
    for name in names:
        if name not in states:
            raise UnknownState(name)


def told_deed(scale, kind, states, moment, deed):
    """A deed as the log tells it; the errors of do unless any value is a deed that a moment allows."""
    if not isinstance(deed, tuple) or not deed or not isinstance(deed[0], str):
        raise BadDeed()
    word = deed[0]
    if LENGTHS.get(word) != len(deed):
        raise BadDeed()
    check_states(states, deed[1:1 + STATE_COUNTS[word]])
    if word == "tell":
        return (word, deed[1], value_of(kind, scale, states, deed[2]))
    if word == "drop" and deed[1] not in moment.steps:
        raise NotTold(deed[1])
    if word == "claim" and deed[3] not in scale:
        raise UnknownGrade(deed[3])
    if word == "withdraw" and deed[1:] not in moment.claims:
        raise NotTold(deed[1:])
    return deed


def moment_behind(moment, deed):
    """The moment that a deed, as the log tells it, makes of another one."""
    word = deed[0]
    if word == "tell":
        return Moment({**moment.steps, deed[1]: deed[2]}, moment.claims)
    if word == "drop":
        return Moment({x: step for x, step in moment.steps.items() if x != deed[1]}, moment.claims)
    if word == "claim":
        return Moment(moment.steps, {**moment.claims, (deed[1], deed[2]): deed[3]})
    return Moment(moment.steps, {pair: grade for pair, grade in moment.claims.items() if pair != deed[1:]})


def merged_moments(states, elder, one, other):
    """The moment that two make by way of an elder one, and the list of the spots at which they clash."""
    pairs = [(x, y) for x in states for y in states]
    steps, clashing = _merged(states, elder.steps, one.steps, other.steps)
    claims, clashing_pairs = _merged(pairs, elder.claims, one.claims, other.claims)
    spots = [("state", x) for x in clashing] + [("pair", x, y) for x, y in clashing_pairs]
    return Moment(steps, claims), spots


def _merged(keys, elder, one, other):
    """The dict that two dicts make by way of an elder one, and the list of the keys at which they clash."""
    told = {}
    clashing = []
    for key in keys:
        # None stands for nothing: neither a step nor a grade is None.
        before, first, second = elder.get(key), one.get(key), other.get(key)
        if first not in (before, second) and second != before:
            clashing.append(key)
            continue
        worth = second if first == before else first
        if worth is not None:
            told[key] = worth
    return told, clashing
