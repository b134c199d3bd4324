"""Random systems, and the nearness, the pairs that are looked at and the worths by the words of the document."""

import itertools

from neargrades.residues import within
from neargrades.scales import CostScale, LevelScale, SetScale, StopScale
from neargrades.systems import System, made_system
from tests.kindsamples import hues, kinds, random_data
from tests.samples import one_grade

STATE_NAMES = ["c", "a", "b", "e", "d"]
ODD_NAMES = ["l.a", "", "A b", "a,b", "\u00e9"]


def near_scales():
    return [CostScale(2), StopScale(1), LevelScale(2), SetScale(["q", "p"]), one_grade()]


def random_system(kind, scale, states, chance, most=3):
    return made_system(scale, kind, states, {x: random_data(kind, scale, states, chance, most) for x in states})


def couples(chance, most_first=3, most_second=3, names=(STATE_NAMES, ODD_NAMES), scales=None):
    """Two random systems for each kind and scale; also such without states."""
    for scale in near_scales() if scales is None else scales:
        for kind in kinds(scale):
            for first in sorted({0 if chance.random() < 0.1 else 1, most_first}):
                one = random_system(kind, scale, names[0][:first], chance)
                two = random_system(kind, scale, names[1][:chance.randrange(1, most_second + 1)], chance)
                yield one, two


def pairs(one, two):
    return [(x, y) for x in one.states() for y in two.states()]


def none_table(one, two):
    return {pair: one.scale.none for pair in pairs(one, two)}


def random_table(one, two, chance, share=1.0):
    return {pair: chance.choice(one.scale.grades()) for pair in pairs(one, two) if chance.random() < share}


def meet(scale, grades):
    """The greatest grade within all: found by trying."""
    below = [d for d in scale.grades() if all(within(scale, d, grade) for grade in grades)]
    return next(d for d in below if all(within(scale, other, d) for other in below))


def only(scale, a, b):
    below = [d for d in scale.grades() if within(scale, scale.then(a, d), b)]
    return next(d for d in below if all(within(scale, other, d) for other in below))


def join(scale, grades):
    told = scale.none
    for grade in grades:
        told = scale.join(told, grade)
    return told


def lift(kind, scale, table, v, w):
    """The lifted nearness by the words of S5.1."""
    word = kind[0]
    if word == "names":
        return kind[1].near(v, w)
    if word == "next":
        return table.get((v, w), scale.none)
    if word in ("both", "along"):
        halves = [lift(kind[1 + k], scale, table, v[k], w[k]) for k in (0, 1)]
        return meet(scale, halves) if word == "both" else scale.then(*halves)
    if word == "either":
        if v[0] != w[0]:
            return scale.none
        return lift(kind[1 if v[0] == "left" else 2], scale, table, v[1], w[1])
    if word == "row":
        return meet(scale, [lift(kind[2], scale, table, a, b) for a, b in zip(v, w)])
    forth = [only(scale, g, join(scale, [scale.then(lift(kind[1], scale, table, a, b), h) for b, h in w])) for a, g in v]
    back = [only(scale, h, join(scale, [scale.then(lift(kind[1], scale, table, a, b), g) for a, g in v])) for b, h in w]
    return meet(scale, {"forth": forth, "back": back, "kept": forth + back}[word])


def look(kind, v, w):
    """The set of the pairs that two values look at, by the words of S5.5."""
    word = kind[0]
    if word == "names":
        return set()
    if word == "next":
        return {(v, w)}
    if word in ("both", "along"):
        return look(kind[1], v[0], w[0]) | look(kind[2], v[1], w[1])
    if word == "either":
        return look(kind[1 if v[0] == "left" else 2], v[1], w[1]) if v[0] == w[0] else set()
    if word == "row":
        return set().union(*[look(kind[2], a, b) for a, b in zip(v, w)])
    return set().union(*[look(kind[1], a, b) for a, _ in v for b, _ in w])


def whole(one, two, asked):
    """The least whole set, as a list in order."""
    found = set(asked)
    while True:
        more = found.union(*[look(one.kind, one.step(x), two.step(y)) for x, y in found])
        if more == found:
            return [pair for pair in pairs(one, two) if pair in found]
        found = more


def go_round(one, two, table):
    """The pairs of a table behind a round."""
    return {(x, y): lift(one.kind, one.scale, table, one.step(x), two.step(y)) for x, y in table}


def all_rounds(one, two, asked=None):
    """The list of the tables from the first one to that which no round changes."""
    told = [{pair: one.scale.nearest for pair in (pairs(one, two) if asked is None else asked)}]
    while True:
        further = go_round(one, two, told[-1])
        if further == told[-1]:
            return told
        told.append(further)


def let_by(one, two, rows):
    """Whether rows, right ones, are a paper that is let by."""
    table = {(x, y): grade for x, y, grade in rows}
    return all(within(one.scale, grade, lift(one.kind, one.scale, table, one.step(x), two.step(y)))
               for x, y, grade in rows)


def lots(rows):
    """All lots of some rows, in their order."""
    for count in range(len(rows) + 1):
        yield from itertools.combinations(rows, count)


def is_tight(one, two, paper, pair):
    """Whether no lot of fewer rows that has the row of the pair is let by."""
    return not any(let_by(one, two, lot) for lot in lots(paper)
                   if len(lot) < len(paper) and pair in [row[:2] for row in lot])


def any_system(scale=None):
    scale = scale or CostScale(2)
    return System(scale, ("both", ("names", hues(scale)), ("forth", ("next",))), ["a", "b", "c"], {
        "a": ("red", [("b", "0"), ("c", "1")]), "b": ("blue", []), "c": ("red", [("a", "2")])})
