"""Kinds and random values for the tests of kinds, values, texts and systems."""

import functools

from neargrades.scales import CostScale, LevelScale, PairScale, SetScale
from neargrades.spaces import Space, closed_space
from tests.samples import one_grade


def hues(scale):
    """A space whose order of names is not that of the strings."""
    return closed_space(scale, ["red", "blue", "amber"], [("red", "blue", scale.grades()[-1])])


def empty(scale):
    return Space(scale, [], [])


def kinds(scale):
    names, state = ("names", hues(scale)), ("next",)
    return [
        names, state, ("both", names, state), ("along", state, names), ("either", names, state),
        ("either", state, ("both", state, state)), ("row", ("go",), state), ("row", ("z", "a", "m"), names),
        ("forth", state), ("back", names), ("kept", ("both", names, state)), ("forth", ("either", names, state)),
        ("kept", ("forth", state)), ("back", ("kept", ("row", ("b", "a"), state))),
        ("both", ("forth", state), ("row", ("x", "y"), ("back", names))),
        ("forth", ("forth", ("either", ("kept", names), ("next",)))),
        ("row", ("p", "q"), ("either", ("along", names, state), ("forth", ("row", ("t",), ("either", state, names))))),
    ]


def scales():
    return [CostScale(2), LevelScale(2), SetScale(["q", "p"]), PairScale(CostScale(1), LevelScale(1)), one_grade()]


def random_data(kind, scale, states, chance, most=3):
    """Data of a kind, with grades that are none and values that stand several times."""
    word = kind[0]
    if word == "names":
        return chance.choice(kind[1].names())
    if word == "next":
        return chance.choice(states)
    if word in ("both", "along"):
        return tuple(random_data(part, scale, states, chance, most) for part in kind[1:])
    if word == "either":
        side = chance.choice(["left", "right"])
        return (side, random_data(kind[1 if side == "left" else 2], scale, states, chance, most))
    if word == "row":
        return tuple(random_data(kind[2], scale, states, chance, most) for _ in kind[1])
    row = [(random_data(kind[1], scale, states, chance, most), chance.choice(scale.grades()))
           for _ in range(chance.randrange(most + 1))]
    row += [(inner, chance.choice(scale.grades())) for inner, _ in row if chance.random() < 0.3]
    chance.shuffle(row)
    return row if chance.random() < 0.5 else tuple(row)


def compared(kind, scale, states, value, other):
    """-1, 0 or 1, as the one value stands ahead of, with or behind the other one."""
    word = kind[0]
    if word in ("names", "next"):
        order = kind[1].names() if word == "names" else list(states)
        return sign(order.index(value) - order.index(other))
    if word in ("both", "along"):
        return first_unlike([compared(kind[1 + k], scale, states, value[k], other[k]) for k in (0, 1)])
    if word == "either":
        if value[0] != other[0]:
            return -1 if value[0] == "left" else 1
        return compared(kind[1 if value[0] == "left" else 2], scale, states, value[1], other[1])
    if word == "row":
        return first_unlike([compared(kind[2], scale, states, v, w) for v, w in zip(value, other)])
    for (v, g), (w, h) in zip(value, other):
        told = compared(kind[1], scale, states, v, w) or sign(scale.grades().index(g) - scale.grades().index(h))
        if told:
            return told
    return sign(len(value) - len(other))


def sign(number):
    return (number > 0) - (number < 0)


def first_unlike(told):
    return next((number for number in told if number), 0)


def told(kind, scale, states, data):
    """The value that data tell, by the words of the document."""
    word = kind[0]
    if word in ("names", "next"):
        return data
    if word in ("both", "along"):
        return tuple(told(part, scale, states, inner) for part, inner in zip(kind[1:], data))
    if word == "either":
        return (data[0], told(kind[1 if data[0] == "left" else 2], scale, states, data[1]))
    if word == "row":
        return tuple(told(kind[2], scale, states, inner) for inner in data)
    grades = {}
    for inner, grade in data:
        value = told(kind[1], scale, states, inner)
        grades[value] = scale.join(grades.get(value, scale.none), grade)
    order = functools.cmp_to_key(lambda value, other: compared(kind[1], scale, states, value, other))
    return tuple((value, grades[value]) for value in sorted(grades, key=order) if grades[value] != scale.none)
