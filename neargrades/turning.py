"""Turning: kinds, systems and papers the other way round."""

from neargrades.kinds import parts_of_kind
from neargrades.spaces import Space
from neargrades.systems import made_system, steps_of

TURNED = {"forth": "back", "back": "forth"}


def turned_kind(kind):
    """The kind with forth and back exchanged, and each space the other way round."""
    word = kind[0]
    if word == "names":
        return (word, _turned_space(kind[1]))
    parts = [turned_kind(part) for part in parts_of_kind(kind)]
    if word == "row":
        return (word, kind[1], *parts)
    return (TURNED.get(word, word), *parts)


def _turned_space(space):
    names = space.names()
    return Space(space.scale, names, [[space.near(b, a) for b in names] for a in names])


def turned_system(system):
    """The system with the turned kind and the same steps."""
    return made_system(system.scale, turned_kind(system.kind), system.states(), steps_of(system))


def turned_paper(paper):
    """The rows the other way round, in their order."""
    return tuple([(y, x, grade) for x, y, grade in paper])
