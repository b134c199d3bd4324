"""A second yard, by the words of part 10, and random calls for both."""

import copy

from neargrades.errors import BadName, BadValue, Clash, NotTold, NothingDone, TooMany, UnknownGrade, UnknownName, UnknownState
from neargrades.scales import CostScale
from neargrades.values import value_of
from neargrades.yard import Yard
from tests.kindsamples import hues, random_data

COST = CostScale(2)
NEXT = ("next",)
KIND = ("both", ("names", hues(COST)), ("forth", NEXT))
STATES = ["c", "a", "b"]


def any_yard(states=STATES, kind=KIND, scale=COST):
    return Yard(scale, kind, states)


class Refused(Exception):
    """What the other yard should raise: a class of errors and its attributes."""

    def __init__(self, error, **attributes):
        super().__init__(error, attributes)
        self.error = error
        self.attributes = attributes


class PlainYard:
    """Holds all in lists and dicts; each moment is ({state: step}, {pair: grade}) with the numbers it came of."""

    def __init__(self, scale, kind, states):
        self.scale, self.kind, self.all = scale, kind, list(states)
        self.moments, self.came, self.deeds = [({}, {})], [()], []
        self.trails, self.places, self.place = {"main": [0]}, {"main": 0}, "main"

    def at(self, name=None):
        name = name or self.place
        return self.trails[name][self.places[name]]

    def put(self, moment, came, deed):
        if len(self.moments) == 200:
            raise Refused(TooMany)
        self.moments.append(moment)
        self.came.append(came)
        self.deeds.append((came[0], deed))
        trail = self.trails[self.place]
        del trail[self.places[self.place] + 1:]
        trail.append(len(self.moments) - 1)
        self.places[self.place] += 1
        return len(self.moments) - 1

    def do(self, deed):
        steps, claims = copy.deepcopy(self.moments[self.at()])
        for x in deed[1:3] if deed[0] in ("claim", "withdraw") else deed[1:2]:
            if x not in self.all:
                raise Refused(UnknownState, name=x)
        if deed[0] == "tell":
            steps[deed[1]] = value_of(self.kind, self.scale, self.all, deed[2])
            deed = ("tell", deed[1], steps[deed[1]])
        elif deed[0] == "drop":
            if deed[1] not in steps:
                raise Refused(NotTold, name=deed[1])
            del steps[deed[1]]
        elif deed[0] == "claim":
            if deed[3] not in self.scale.grades():
                raise Refused(UnknownGrade, name=deed[3])
            claims[deed[1:3]] = deed[3]
        else:
            if deed[1:3] not in claims:
                raise Refused(NotTold, name=deed[1:3])
            del claims[deed[1:3]]
        return self.put((steps, claims), (self.at(),), deed)

    def move(self, count):
        if not 0 <= self.places[self.place] + count < len(self.trails[self.place]):
            raise Refused(NothingDone)
        self.places[self.place] += count
        return self.at()

    def branch(self, name):
        if name in self.trails:
            raise Refused(BadName, name=name)
        if len(self.trails) == 6:
            raise Refused(TooMany)
        self.trails[name], self.places[name] = [self.at()], 0

    def check(self, name):
        if name not in self.trails:
            raise Refused(UnknownName, name=name)

    def go(self, name):
        self.check(name)
        self.place = name
        return self.at()

    def elders(self, number):
        return sorted({number}.union(*[self.elders(elder) for elder in self.came[number]]))

    def last_common(self, one, two):
        return max(set(self.elders(one)) & set(self.elders(two)))

    def merge(self, name):
        self.check(name)
        here, other = self.at(), self.at(name)
        if other in self.elders(here):
            return here
        elder = self.last_common(here, other)
        spots, merged = [], []
        keys = [self.all, [(x, y) for x in self.all for y in self.all]]
        for part in (0, 1):
            told = {}
            for key in keys[part]:
                e, v, w = [self.moments[number][part].get(key) for number in (elder, here, other)]
                if v != e and w != e and v != w:
                    spots.append(("state", key) if part == 0 else ("pair", *key))
                elif (w if v == e else v) is not None:
                    told[key] = w if v == e else v
            merged.append(told)
        if spots:
            raise Refused(Clash, spots=tuple(spots))
        return self.put(tuple(merged), (here, other), ("merge", other))

    def moment(self, number):
        steps, claims = self.moments[number]
        return ({x: steps[x] for x in self.all if x in steps},
                [(x, y, claims[(x, y)]) for x in self.all for y in self.all if (x, y) in claims])


def random_deed(yard, chance, states=None):
    states = states or yard.states()
    word = chance.choice(["tell", "tell", "tell", "drop", "claim", "claim", "withdraw"])
    x, y = chance.choice(states), chance.choice(states)
    if word == "tell":
        return (word, x, random_data(yard.kind, yard.scale, yard.states(), chance, 2))
    if word == "drop":
        return (word, x)
    return (word, x, y, chance.choice(yard.scale.grades() + ["9"])) if word == "claim" else (word, x, y)


def random_call(yard, chance):
    """The name of a method and its arguments."""
    kind = chance.random()
    if kind < 0.6:
        return "do", (random_deed(yard, chance, yard.states() + ["zz"] if chance.random() < 0.1 else None),)
    if kind < 0.75:
        return chance.choice(["undo", "redo"]), ()
    names = yard.branches() + ["x1", "x2"]
    return chance.choice(["branch", "go", "go", "merge", "merge"]), (chance.choice(names),)


def plain_call(plain, word, arguments):
    if word in ("undo", "redo"):
        return plain.move(-1 if word == "undo" else 1)
    return getattr(plain, word)(*arguments)


def seen(yard):
    """All that a yard tells."""
    return [
        yard.states(), len(yard), yard.present(), yard.now(), [yard.moment(number) for number in range(len(yard))], yard.log(),
        yard.here(), yard.branches(), [(yard.trail(name), yard.mark(name)) for name in yard.branches()],
    ]


def plain_seen(plain):
    return [
        plain.all, len(plain.moments), plain.at(), plain.moment(plain.at()),
        [plain.moment(number) for number in range(len(plain.moments))], plain.deeds, plain.place, list(plain.trails),
        [(plain.trails[name], plain.places[name]) for name in plain.trails],
    ]


def grown_yard(chance, count, states=STATES, kind=KIND, scale=COST):
    """A yard behind so many random calls, and the second one."""
    yard, plain = any_yard(states, kind, scale), PlainYard(scale, kind, states)
    for _ in range(count):
        word, arguments = random_call(yard, chance)
        try:
            plain_call(plain, word, arguments)
        except (Refused, BadValue):
            continue
        getattr(yard, word)(*arguments)
    return yard, plain
