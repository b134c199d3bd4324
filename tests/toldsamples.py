"""Told sayings, and thinned ones, by the words of the document."""

from neargrades.residues import within
from tests.sayingsamples import STATES, all_parts, exchanged, inner_numbers, worth


def told_state(system, rounds, x):
    if rounds == 0:
        return system.scale.nearest
    return ("step", told_part(system, system.kind, rounds - 1, system.step(x)))


def told_part(system, kind, rounds, value):
    word = kind[0]
    if word == "names":
        return ("like", value)
    if word == "next":
        return ("now", told_state(system, rounds, value))
    if word in ("both", "along"):
        return ("halves", told_part(system, kind[1], rounds, value[0]), told_part(system, kind[2], rounds, value[1]))
    if word == "either":
        return (value[0], told_part(system, kind[1 if value[0] == "left" else 2], rounds, value[1]))
    if word == "row":
        return ("rows", *[told_part(system, kind[2], rounds, part) for part in value])
    inner = [(told_part(system, kind[1], rounds, part), grade) for part, grade in value]
    forth = one_behind_another("and", [("if", grade, ("some", part)) for part, grade in inner], system.scale.nearest)
    back = ("all", one_behind_another("or", [("by", grade, part) for part, grade in inner], system.scale.none))
    return {"forth": forth, "back": back, "kept": ("and", forth, back)}[word]


def one_behind_another(word, sayings, empty):
    if not sayings:
        return empty
    if len(sayings) == 1:
        return sayings[0]
    return (word, sayings[0], one_behind_another(word, sayings[1:], empty))


def told_size(system, rounds, x):
    """The number of all parts of what a state is told, without telling it."""
    sizes = {z: 1 for z in system.states()}
    for _ in range(rounds):
        sizes = {z: 1 + value_size(system.kind, system.step(z), sizes) for z in system.states()}
    return sizes[x]


def value_size(kind, value, sizes):
    word = kind[0]
    if word == "names":
        return 1
    if word == "next":
        return 1 + sizes[value]
    if word in ("both", "along"):
        return 1 + value_size(kind[1], value[0], sizes) + value_size(kind[2], value[1], sizes)
    if word == "either":
        return 1 + value_size(kind[1 if value[0] == "left" else 2], value[1], sizes)
    if word == "row":
        return 1 + sum(value_size(kind[2], part, sizes) for part in value)
    inner = [value_size(kind[1], part, sizes) for part, _ in value]
    chain = max(len(inner) - 1, 0)
    forth = sum(2 + size for size in inner) + chain if inner else 1
    back = 1 + (sum(1 + size for size in inner) + chain if inner else 1)
    return {"forth": forth, "back": back, "kept": 1 + forth + back}[word]


def parts_them(system, other, x, y, grade, saying):
    return (worth(system, saying, STATES, x) == system.scale.nearest
            and not within(system.scale, grade, worth(other, saying, STATES, y)))


def thinned_by_words(system, other, x, y, grade, saying):
    """S7.6, step by step."""
    while True:
        further = next((told for told in ways(system, saying) if parts_them(system, other, x, y, grade, told)), None)
        if further is None:
            return saying
        saying = further


def ways(system, saying):
    for path, _, part in all_parts(system.kind, saying):
        if not isinstance(part, str):
            tried = [system.scale.nearest, system.scale.none]
            if part[0] in ("and", "or", "by", "if"):
                tried += inner_numbers(part)
            for other in tried:
                yield exchanged(saying, path, other)
