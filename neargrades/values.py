"""Values of kinds over states, and the data that tell them."""

from neargrades.errors import BadValue, UnknownGrade, UnknownName, UnknownState
from neargrades.kinds import SETS, SIDES, item_kinds, side_kind
from neargrades.words import is_row


def value_of(kind, scale, states, data):
    """The value that data tell."""
    return _told(kind, scale, _places_of(states), data, ())


def _places_of(states):
    return {states[place]: place for place in range(len(states))}


def _told(kind, scale, places, data, path):
    word = kind[0]
    if word == "names":
        return _told_name(kind[1], data, path)
    if word == "next":
        return _told_state(places, data, path)
    if word == "either":
        return _told_side(kind, scale, places, data, path)
    if word in SETS:
        return _told_set(kind, scale, places, data, path)
    return _told_items(kind, scale, places, data, path)


def _told_name(space, data, path):
    if not isinstance(data, str):
        raise BadValue(path)
    if data not in space:
        raise UnknownName(data)
    return data


def _told_state(places, data, path):
    if not isinstance(data, str):
        raise BadValue(path)
    if data not in places:
        raise UnknownState(data)
    return data


def _told_side(kind, scale, places, data, path):
    if not isinstance(data, tuple) or len(data) != 2 or data[0] not in SIDES:
        raise BadValue(path)
    return (data[0], _told(side_kind(kind, data[0]), scale, places, data[1], (*path, 0)))


def _told_items(kind, scale, places, data, path):
    kinds = item_kinds(kind)
    if not isinstance(data, tuple) or len(data) != len(kinds):
        raise BadValue(path)
    return tuple([_told(kinds[k], scale, places, data[k], (*path, k)) for k in range(len(kinds))])


def _told_set(kind, scale, places, data, path):
    if not is_row(data):
        raise BadValue(path)
    entries = [_told_entry(kind[1], scale, places, data[k], (*path, k)) for k in range(len(data))]
    return _set_in_form(kind[1], scale, places, entries)


def _told_entry(kind, scale, places, entry, path):
    if not isinstance(entry, tuple) or len(entry) != 2:
        raise BadValue(path)
    value = _told(kind, scale, places, entry[0], path)
    if entry[1] not in scale:
        raise UnknownGrade(entry[1])
    return (value, entry[1])


def _set_in_form(kind, scale, places, entries):
    """The set of some entries: ascending, each value once, no grade that is none."""
    merged = []
    for value, grade in sorted(entries, key=lambda entry: _rank(kind, scale, places, entry[0])):
        # Equal values have equal ranks, so they stand side by side here.
        if merged and merged[-1][0] == value:
            merged[-1] = (value, scale.join(merged[-1][1], grade))
        else:
            merged.append((value, grade))
    return tuple([entry for entry in merged if entry[1] != scale.none])


def _rank(kind, scale, places, value):
    """A number or a tuple that is ordered among its like as values of the kind are."""
    word = kind[0]
    if word == "names":
        return kind[1].names().index(value)
    if word == "next":
        return places[value]
    if word == "either":
        return (SIDES.index(value[0]), _rank(side_kind(kind, value[0]), scale, places, value[1]))
    if word in SETS:
        grades = scale.grades()
        return tuple([(_rank(kind[1], scale, places, v), grades.index(grade)) for v, grade in value])
    kinds = item_kinds(kind)
    return tuple([_rank(kinds[k], scale, places, value[k]) for k in range(len(kinds))])


def is_value(kind, scale, states, value):
    """Whether any value is a value of the kind over the states, in its one form."""
    try:
        told = value_of(kind, scale, states, value)
    except (BadValue, UnknownName, UnknownState, UnknownGrade):
        return False
    return told == value


def is_ahead(kind, scale, states, value, other):
    """Whether the one value stands ahead of the other one."""
    places = _places_of(states)
    return _rank(kind, scale, places, value) < _rank(kind, scale, places, other)


def _inner_values(kind, value):
    """The list of the pairs (kind, value) of the values that stand directly in a value."""
    word = kind[0]
    if word == "either":
        return [(side_kind(kind, value[0]), value[1])]
    if word in SETS:
        return [(kind[1], entry[0]) for entry in value]
    kinds = item_kinds(kind)
    return [(kinds[k], value[k]) for k in range(len(kinds))]


def states_in(kind, value):
    """The list of the states in a value, each once, in the order in which they first stand."""
    found = {}
    waiting = [(kind, value)]
    while waiting:
        part, inner = waiting.pop()
        if part[0] == "next":
            found[inner] = True
        # The last one of the list is the next one, so what is inside is put there turned.
        waiting.extend(_inner_values(part, inner)[::-1])
    return list(found)


def parts_in(kind, value):
    """The number of the value's parts, itself among them."""
    return 1 + sum([parts_in(part, inner) for part, inner in _inner_values(kind, value)])


def led_value(kind, scale, states, value, images):
    """The value with each state exchanged by its image, in its form over the images' states."""
    for state in states_in(kind, value):
        if state not in images:
            raise UnknownState(state)
    # This goes through the images in the same order, and raises UnknownState for the first that is no state.
    return value_of(kind, scale, states, _exchanged(kind, value, images))


def _exchanged(kind, value, images):
    word = kind[0]
    if word == "names":
        return value
    if word == "next":
        return images[value]
    if word == "either":
        return (value[0], _exchanged(side_kind(kind, value[0]), value[1], images))
    if word in SETS:
        return tuple([(_exchanged(kind[1], inner, images), grade) for inner, grade in value])
    kinds = item_kinds(kind)
    return tuple([_exchanged(kinds[k], value[k], images) for k in range(len(kinds))])
