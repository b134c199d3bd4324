"""Spaces: names with a nearness among them."""

from neargrades.errors import BadTable, MixedScales, NotSame, NotThrough, UnknownGrade, UnknownName
from neargrades.likeness import are_near, check_idempotent, parted
from neargrades.residues import within
from neargrades.tables import check_table
from neargrades.words import check_words, is_row


class Space:
    """Tells for each two of some names how near the one is to the other."""

    def __init__(self, scale, names, rows):
        check_words(names)
        _check_rows(scale, names, rows)
        self.scale = scale
        self._names = tuple(names)
        self._places = {names[place]: place for place in range(len(names))}
        self._rows = tuple([tuple(row) for row in rows])
        _check_near(self)

    def __contains__(self, x):
        return isinstance(x, str) and x in self._places

    def __len__(self):
        return len(self._names)

    def __eq__(self, other):
        return (isinstance(other, Space) and self.scale == other.scale and self._names == other._names
                and self._rows == other._rows)

    def names(self):
        """The list of the names, in order."""
        return list(self._names)

    def near(self, a, b):
        """How near a is to b."""
        return self._rows[self._place(a)][self._place(b)]

    def _place(self, name):
        if name not in self:
            raise UnknownName(name)
        return self._places[name]


def _check_rows(scale, names, rows):
    """One row for each name, with one grade for each name."""
    if not is_row(rows) or len(rows) != len(names):
        raise BadTable()
    for row in rows:
        if not is_row(row) or len(row) != len(names):
            raise BadTable()
    for row in rows:
        for grade in row:
            if grade not in scale:
                raise UnknownGrade(grade)


def _check_near(space):
    names = space.names()
    for name in names:
        if space.near(name, name) != space.scale.nearest:
            raise NotSame(name)
    for a in names:
        for b in names:
            for c in names:
                if not _is_through(space, a, b, c):
                    raise NotThrough((a, b, c))


def _is_through(space, a, b, c):
    """Whether a is as near to c as the way by b makes it."""
    way = space.scale.then(space.near(a, b), space.near(b, c))
    return within(space.scale, way, space.near(a, c))


def closed_space(scale, names, steps):
    """The least space in which each step's grade is within the nearness of its names."""
    check_words(names)
    places = {names[place]: place for place in range(len(names))}
    for a, b, grade in steps:
        _check_step(scale, places, a, b, grade)
    rows = [[scale.nearest if a == b else scale.none for b in names] for a in names]
    for a, b, grade in steps:
        rows[places[a]][places[b]] = scale.join(rows[places[a]][places[b]], grade)
    for middle in range(len(names)):
        rows = _by_way_of(scale, rows, middle)
    return Space(scale, names, rows)


def _check_step(scale, places, a, b, grade):
    for name in (a, b):
        if not isinstance(name, str) or name not in places:
            raise UnknownName(name)
    if grade not in scale:
        raise UnknownGrade(grade)


def _by_way_of(scale, rows, middle):
    """The rows in which chains by way of one more name are let in."""
    places = list(range(len(rows)))
    return [
        [scale.join(rows[i][j], scale.then(rows[i][middle], rows[middle][j])) for j in places]
        for i in places
    ]


def space_of(scale, names, table):
    """The space whose nearness stands in a table."""
    check_words(names)
    check_table(scale, table)
    return Space(scale, names, [[table.get((a, b), scale.none) for b in names] for a in names])


def near_classes(space, grade):
    """The classes of names that have an idempotent grade both ways."""
    check_idempotent(space.scale, grade)
    return parted(space.names(), lambda a, b: are_near(space.scale, grade, space.near(a, b), space.near(b, a)))


def led_space(m, space):
    """The space over the map's target with the images of all grades."""
    if space.scale != m.source:
        raise MixedScales()
    names = space.names()
    return Space(m.target, names, [[m(space.near(a, b)) for b in names] for a in names])
