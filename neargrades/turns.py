"""Turns: a kind is changed at one path, and values, systems and sayings go along."""

from neargrades.errors import BadTurn, UnknownState
from neargrades.kinds import SETS, SIDES, kind_at, parts_of_kind, stones
from neargrades.sayforms import EVERYWHERE, STATES, gathered, part_places, with_parts
from neargrades.sayings import check_saying
from neargrades.shelves import Plan
from neargrades.systems import made_system, steps_of
from neargrades.turnforms import check_turn, inverse_turn, turned_data, turned_items, turned_stone
from neargrades.values import led_value, value_of
from neargrades.words import check_words


def kind_behind(kind, turn):
    """The turned kind."""
    check_turn(kind, turn)
    return _exchanged(kind, turn[1], turned_stone(kind_at(kind, turn[1]), turn))


def _exchanged(kind, path, stone):
    """The kind with another stone at a path."""
    if not path:
        return stone
    parts = parts_of_kind(kind)
    parts[path[0]] = _exchanged(parts[path[0]], path[1:], stone)
    return (*kind[:len(kind) - len(parts)], *parts)


def value_behind(kind, scale, states, value, turn):
    """The turned value of the kind, in its form over the turned kind."""
    return value_of(kind_behind(kind, turn), scale, states, _data_behind(kind, value, turn, turn[1]))


def _data_behind(kind, value, turn, path):
    """The value turned at a path of the kind: data, for values in sets may stand in any order, and several times."""
    word = kind[0]
    if not path:
        return turned_data(kind, value, turn)
    part = parts_of_kind(kind)[path[0]]
    if word in SETS:
        return tuple([(_data_behind(part, inner, turn, path[1:]), grade) for inner, grade in value])
    if word == "row":
        return tuple([_data_behind(part, inner, turn, path[1:]) for inner in value])
    if word == "either":
        if value[0] != SIDES[path[0]]:
            return value
        return (value[0], _data_behind(part, value[1], turn, path[1:]))
    halves = list(value)
    halves[path[0]] = _data_behind(part, value[path[0]], turn, path[1:])
    return tuple(halves)


def system_behind(system, turn):
    """The system of the turned kind with the turned steps."""
    kind = kind_behind(system.kind, turn)
    steps = {x: _data_behind(system.kind, system.step(x), turn, turn[1]) for x in system.states()}
    return made_system(system.scale, kind, system.states(), steps)


def saying_behind(kind, scale, saying, turn):
    """A saying about states of the kind, led to the turned kind by a turn that is no drop."""
    check_turn(kind, turn)
    if turn[0] == "drop":
        raise BadTurn()
    check_saying(kind, scale, saying)
    return _led_saying(kind, saying, turn)


def _led_saying(kind, saying, turn):
    """The saying in which halves, sides, letters and names at the path of a turn that is no drop are turned."""
    plan = Plan(kind)
    there = plan.stone_at(turn[1])
    return gathered(
        saying, STATES,
        lambda place, part: part_places(plan, place, part),
        lambda part, place, parts: _turned_part(plan.kinds[there], part, parts, turn, place == there),
    )


def _turned_part(stone, part, parts, turn, is_there):
    led = with_parts(part, parts)
    if not is_there or not isinstance(part, tuple) or part[0] in EVERYWHERE:
        return led
    return turned_items(stone, led, turn)


def saying_ahead(kind, scale, saying, turn):
    """A saying about states of the turned kind, led back to the kind."""
    turned = kind_behind(kind, turn)
    check_saying(turned, scale, saying)
    stone = kind_at(kind, turn[1])
    if turn[0] != "drop":
        return _led_saying(turned, saying, inverse_turn(stone, turn))
    return _ahead_of_drop(turned, saying, stone[0] == "row", turn, scale.nearest)


def _ahead_of_drop(turned, saying, is_row, turn, nearest):
    """The saying in which nothing is asked of what is gone behind a drop: nearest stands for it."""
    plan = Plan(turned)
    there = plan.stone_at(turn[1])

    def make(part, place, parts):
        if is_row:
            return with_parts(part, parts) if place != there else _with_letter(part, parts, turn[2], nearest)
        return with_parts(part, _with_halves(part, parts, part_places(plan, place, part), there, turn[2], nearest))

    return gathered(saying, STATES, lambda place, part: part_places(plan, place, part), make)


def _with_letter(part, parts, number, nearest):
    """A part at the place of a row, with nearest at the number of a letter."""
    if not isinstance(part, tuple) or part[0] != "rows":
        return with_parts(part, parts)
    return ("rows", *parts[:number], nearest, *parts[number:])


def _with_halves(part, parts, places, there, number, nearest):
    """The parts of a part, those at the place of the half that stayed within halves.

    They are put there as a whole: what stands in them at the same place is not put there once more.
    """
    if part[0] in EVERYWHERE:
        return parts
    return [_put_into_halves(parts[k], number, nearest) if places[k] == there else parts[k]
            for k in range(len(parts))]


def _put_into_halves(saying, number, nearest):
    """Halves with nearest at a number, and a saying at the other one."""
    return ("halves", nearest, saying) if number == 0 else ("halves", saying, nearest)


def all_turns(kind):
    """The list of all turns of a kind that exchange two neighbours, or drop one, stone by stone."""
    told = []
    for path, word in stones(kind):
        stone = kind_at(kind, path)
        if word in ("both", "along"):
            told.extend([("swap", path), ("drop", path, 0), ("drop", path, 1)])
        elif word == "either":
            told.append(("sides", path))
        elif word == "row":
            told.extend(_turns_of_row(path, len(stone[1])))
    return told


def _turns_of_row(path, count):
    orders = [("order", path, _exchange_order(count, k)) for k in range(count - 1)]
    return orders + [("drop", path, k) for k in range(count) if count > 1]


def _exchange_order(count, k):
    """The order of so many numbers that exchanges number k with the next one."""
    order = list(range(count))
    order[k] = k + 1
    order[k + 1] = k
    return tuple(order)


def renamed(system, images):
    """The system with each state called by its image."""
    states = system.states()
    for x in states:
        if x not in images:
            raise UnknownState(x)
    names = [images[x] for x in states]
    check_words(names)
    steps = {images[x]: led_value(system.kind, system.scale, names, step, images)
             for x, step in steps_of(system).items()}
    return made_system(system.scale, system.kind, names, steps)


def renamed_paper(paper, images, others):
    """The rows with images for the first names and others for the second ones."""
    for x, y, _ in paper:
        if x not in images:
            raise UnknownState(x)
        if y not in others:
            raise UnknownState(y)
    return tuple([(images[x], others[y], grade) for x, y, grade in paper])
