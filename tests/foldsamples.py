"""Systems in which states are like one another, and likeness by the words of the document."""

from neargrades.residues import within
from neargrades.scales import CostScale, LevelScale, PairScale, SetScale, StopScale
from neargrades.systems import made_system
from tests.kindsamples import kinds, random_data, told
from tests.nearsamples import ODD_NAMES, STATE_NAMES, all_rounds
from tests.samples import one_grade


def fold_scales():
    """Scales that have idempotent grades besides none and nearest, and such that have none."""
    return [SetScale(["q", "p"]), StopScale(1), LevelScale(2), CostScale(2), PairScale(CostScale(0), LevelScale(1)), one_grade()]


def likely_system(kind, scale, states, chance, most=3):
    """A random system some states of which are copies of others, to which states lead in their place."""
    steps = {}
    for k, x in enumerate(states):
        if k > 0 and chance.random() < 0.6:
            steps[x] = moved(kind, steps[chance.choice(states[:k])], states, chance)
        else:
            steps[x] = random_data(kind, scale, states, chance, most)
    return made_system(scale, kind, states, steps)


def moved(kind, data, states, chance):
    """Data in which a state has sometimes become the one beside it, and a grade of a set is sometimes doubled."""
    word = kind[0]
    if word == "names":
        return data
    if word == "next":
        at = list(states).index(data)
        return states[max(0, at - 1)] if chance.random() < 0.3 else data
    if word in ("both", "along"):
        return tuple(moved(part, inner, states, chance) for part, inner in zip(kind[1:], data))
    if word == "either":
        return (data[0], moved(kind[1 if data[0] == "left" else 2], data[1], states, chance))
    if word == "row":
        return tuple(moved(kind[2], inner, states, chance) for inner in data)
    rows = [(moved(kind[1], inner, states, chance), grade) for inner, grade in data]
    return rows + rows[:1]


def likely_systems(chance, most=4, members=3):
    for scale in fold_scales():
        for kind in kinds(scale):
            states = chance.choice([STATE_NAMES, ODD_NAMES])
            yield likely_system(kind, scale, states[:chance.randrange(1, most + 1)], chance, members)


def near_table(one, two):
    return all_rounds(one, two)[-1]


def like(one, two, e, x, y):
    """Likeness by the words of S8.1, one and two being systems."""
    return (within(one.scale, e, near_table(one, two)[(x, y)]) and within(one.scale, e, near_table(two, one)[(y, x)]))


def likes(system, e):
    """A function that tells whether two states of a system are like."""
    table = near_table(system, system)
    return lambda x, y: within(system.scale, e, table[(x, y)]) and within(system.scale, e, table[(y, x)])


def classes_by_words(system, e):
    is_like = likes(system, e)
    return [[y for y in system.states() if is_like(x, y)] for k, x in enumerate(system.states())
            if not any(is_like(x, y) for y in system.states()[:k])]


def random_blocks(system, e, chance):
    """Blocks of like states in any order; some are tuples."""
    blocks = []
    for states in classes_by_words(system, e):
        parts = [[] for _ in range(chance.randrange(1, len(states) + 1))]
        for x in states:
            chance.choice(parts).append(x)
        for part in parts:
            chance.shuffle(part)
            if part:
                blocks.append(part if chance.random() < 0.5 else tuple(part))
    chance.shuffle(blocks)
    return blocks


def firsts_by_words(system, blocks):
    order = system.states().index
    return {x: min(block, key=order) for block in blocks for x in block}


def exchanged(kind, value, leads):
    word = kind[0]
    if word == "names":
        return value
    if word == "next":
        return leads[value]
    if word in ("both", "along"):
        return tuple(exchanged(part, inner, leads) for part, inner in zip(kind[1:], value))
    if word == "either":
        return (value[0], exchanged(kind[1 if value[0] == "left" else 2], value[1], leads))
    if word == "row":
        return tuple(exchanged(kind[2], inner, leads) for inner in value)
    return [(exchanged(kind[1], inner, leads), grade) for inner, grade in value]


def folded_by_words(system, blocks):
    """The states and steps of S8.3."""
    leads = firsts_by_words(system, blocks)
    left = [x for x in system.states() if leads[x] == x]
    return left, {p: told(system.kind, system.scale, left, exchanged(system.kind, system.step(p), leads)) for p in left}
