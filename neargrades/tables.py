"""Tables: dicts from pairs of strings to grades; pairs that they lack have none."""

from neargrades.errors import BadTable, UnknownGrade
from neargrades.residues import within


def check_table(scale, table):
    """Raise BadTable, then UnknownGrade, unless any value is a table over the scale."""
    if not isinstance(table, dict) or not all([_is_pair(key) for key in table]):
        raise BadTable()
    for grade in table.values():
        if grade not in scale:
            raise UnknownGrade(grade)


def _is_pair(key):
    return isinstance(key, tuple) and len(key) == 2 and isinstance(key[0], str) and isinstance(key[1], str)


def _in_form(scale, table):
    """The table with its pairs ascending, those with none left out."""
    return {pair: table[pair] for pair in sorted(list(table)) if table[pair] != scale.none}


def _pairs_of_both(table, other):
    """The pairs of two tables, each once."""
    return list({**table, **other})


def behind(scale, table, other):
    """One table behind the other: over all that stands between, the products joined."""
    check_table(scale, table)
    check_table(scale, other)
    going_on = {}
    for (y, z), grade in other.items():
        going_on.setdefault(y, []).append((z, grade))
    told = {}
    for (x, y), grade in table.items():
        for z, further in going_on.get(y, []):
            told[(x, z)] = scale.join(told.get((x, z), scale.none), scale.then(grade, further))
    return _in_form(scale, told)


def joined_tables(scale, table, other):
    """Pair by pair the join."""
    check_table(scale, table)
    check_table(scale, other)
    none = scale.none
    return _in_form(scale, {
        pair: scale.join(table.get(pair, none), other.get(pair, none))
        for pair in _pairs_of_both(table, other)
    })


def met_tables(scale, table, other):
    """Pair by pair the meet."""
    check_table(scale, table)
    check_table(scale, other)
    # The meet of none and anything is none, so that pairs of one table alone go.
    return _in_form(scale, {pair: scale.meet(table[pair], other[pair]) for pair in table if pair in other})


def turned_table(scale, table):
    """The table that gives (y, x) what this one gives (x, y)."""
    check_table(scale, table)
    return _in_form(scale, {(y, x): grade for (x, y), grade in table.items()})


def led_table(m, table):
    """The images, by a map of scales, of a table over its source."""
    check_table(m.source, table)
    return _in_form(m.target, {pair: m(grade) for pair, grade in table.items()})


def same_table(scale, names):
    """The table that gives nearest to each name with itself."""
    return _in_form(scale, {(name, name): scale.nearest for name in names})


def space_table(space):
    """The table of a space's grades."""
    names = space.names()
    return _in_form(space.scale, {(a, b): space.near(a, b) for a in names for b in names})


def table_within(scale, table, other):
    """Whether each pair's grade in the table is within its grade in the other one."""
    check_table(scale, table)
    check_table(scale, other)
    none = scale.none
    return all([within(scale, grade, other.get(pair, none)) for pair, grade in table.items()])


def tables_alike(scale, table, other):
    """Whether all pairs have the same grade in both tables."""
    check_table(scale, table)
    check_table(scale, other)
    return _in_form(scale, table) == _in_form(scale, other)
