"""Kinds, values, systems, papers and sayings led along a map of scales."""

from neargrades.errors import MixedScales
from neargrades.kinds import SETS, item_kinds, parts_of_kind, side_kind
from neargrades.pairs import all_pairs
from neargrades.rounds import nearness
from neargrades.sayforms import GRADED, gathered, inner_parts, same_places, with_parts
from neargrades.spaces import led_space
from neargrades.systems import check_like, made_system
from neargrades.values import value_of


def mapped_kind(m, kind):
    """The kind with each space led along a map."""
    word = kind[0]
    if word == "names":
        return (word, led_space(m, kind[1]))
    parts = [mapped_kind(m, part) for part in parts_of_kind(kind)]
    if word == "row":
        return (word, kind[1], *parts)
    return (word, *parts)


def mapped_value(m, kind, states, value):
    """The value with each grade led along a map, in its form over the led kind."""
    return value_of(mapped_kind(m, kind), m.target, states, _led_data(m, kind, value))


def _led_data(m, kind, value):
    """The value with each grade led: data, for the images may be none, and values may have become the same."""
    word = kind[0]
    if word in ("names", "next"):
        return value
    if word == "either":
        return (value[0], _led_data(m, side_kind(kind, value[0]), value[1]))
    if word in SETS:
        return tuple([(_led_data(m, kind[1], inner), m(grade)) for inner, grade in value])
    kinds = item_kinds(kind)
    return tuple([_led_data(m, kinds[k], value[k]) for k in range(len(kinds))])


def mapped_system(m, system):
    """The system with its kind and its steps led along a map."""
    if system.scale != m.source:
        raise MixedScales()
    steps = {x: _led_data(m, system.kind, system.step(x)) for x in system.states()}
    return made_system(m.target, mapped_kind(m, system.kind), system.states(), steps)


def mapped_paper(m, paper):
    """The rows with their grades led along a map, those with none left out."""
    rows = [(x, y, m(grade)) for x, y, grade in paper]
    return tuple([row for row in rows if row[2] != m.target.none])


def mapped_saying(m, saying):
    """The saying with each grade in it led along a map."""
    _check_grades(m, saying)
    return gathered(saying, None, same_places, lambda part, place, parts: _with_led_grade(m, part, parts))


def _check_grades(m, saying):
    """Raise UnknownGrade for the first grade in a saying, each part ahead of its parts, that is none of the source."""
    waiting = [saying]
    while waiting:
        part = waiting.pop()
        _with_led_grade(m, part, inner_parts(part))
        # The last one of the list is the next one, so the parts are put there turned.
        waiting.extend(inner_parts(part)[::-1])


def _with_led_grade(m, saying, parts):
    """The saying with other parts, and with the grade that stands in it itself led along a map."""
    if not isinstance(saying, tuple):
        return m(saying)
    if saying[0] in GRADED:
        return (saying[0], m(saying[1]), *parts)
    return with_parts(saying, parts)


def keeps_meets(m):
    """None if m keeps each meet, else the first (a, b) for which it does not."""
    for a in m.source.grades():
        for b in m.source.grades():
            if m(m.source.meet(a, b)) != m.target.meet(m(a), m(b)):
                return (a, b)
    return None


def first_less(m, system, other):
    """The first pair at which the image of the nearness is not that of the led systems, None if there is none."""
    check_like(system, other)
    led = nearness(mapped_system(m, system), mapped_system(m, other))[0]
    table = nearness(system, other)[0]
    for pair in all_pairs(system, other):
        if m(table[pair]) != led[pair]:
            return pair
    return None
