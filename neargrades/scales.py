"""Scales: finitely many grades with a join and a product."""

from neargrades.errors import BadScale, UnknownGrade
from neargrades.residues import within
from neargrades.words import LETTERS, is_number, is_row, is_run

MOST_GRADES = 8
MOST_PAIRS = 12


class Scale:
    """What every scale is. The classes below it make them."""

    def __init__(self, grades, joins, products, none, nearest):
        """Hold unlike strings and right tables of their joins and products."""
        self.none = none
        self.nearest = nearest
        self._grades = tuple(grades)
        self._places = {grades[place]: place for place in range(len(grades))}
        self._joins = tuple([tuple(row) for row in joins])
        self._products = tuple([tuple(row) for row in products])
        # Both are asked so often that they are worked out once.
        self._meets = _meet_rows(self)
        self._onlys = _only_rows(self)

    def __contains__(self, x):
        return isinstance(x, str) and x in self._places

    def __len__(self):
        return len(self._grades)

    def __eq__(self, other):
        return (isinstance(other, Scale) and self._grades == other._grades and self._joins == other._joins
                and self._products == other._products and self.none == other.none
                and self.nearest == other.nearest)

    def grades(self):
        """The list of the grades, in order."""
        return list(self._grades)

    def join(self, a, b):
        """The join of two grades."""
        return self._joins[self._place(a)][self._place(b)]

    def then(self, a, b):
        """The product of two grades."""
        return self._products[self._place(a)][self._place(b)]

    def joined(self, row):
        """The join of all grades of a list, from the left; none if it is empty."""
        return self._put_together(self._joins, row, self.none)

    def meet(self, a, b):
        """The greatest grade within both."""
        return self._meets[self._place(a)][self._place(b)]

    def met(self, row):
        """The meet of all grades of a list, from the left; nearest if it is empty."""
        return self._put_together(self._meets, row, self.nearest)

    def only(self, a, b):
        """The greatest grade whose product with a is within b."""
        return self._onlys[self._place(a)][self._place(b)]

    def _place(self, grade):
        if grade not in self:
            raise UnknownGrade(grade)
        return self._places[grade]

    def _put_together(self, table, row, empty):
        places = [self._place(grade) for grade in row]
        if not places:
            return empty
        told = self._grades[places[0]]
        for place in places[1:]:
            told = table[self._places[told]][place]
        return told


def _grades_below(scale):
    """For each grade the list of the grades within it."""
    grades = scale.grades()
    return {b: [a for a in grades if within(scale, a, b)] for b in grades}


def _meet_rows(scale):
    """For each two grades the join of all grades within both."""
    grades = scale.grades()
    below = _grades_below(scale)
    return tuple([
        tuple([scale.joined([d for d in below[a] if d in below[b]]) for b in grades])
        for a in grades
    ])


def _only_rows(scale):
    """For each two grades a, b the join of all d whose product with a is within b."""
    grades = scale.grades()
    below = _grades_below(scale)
    return tuple([
        tuple([scale.joined([d for d in grades if scale.then(a, d) in below[b]]) for b in grades])
        for a in grades
    ])


class TableScale(Scale):
    """A scale that is told grade by grade."""

    def __init__(self, grades, joins, products, *, none, nearest):
        _check_grades(grades)
        _check_rows(grades, joins)
        _check_rows(grades, products)
        _check_entries(grades, [none, nearest])
        Scale.__init__(self, grades, joins, products, none, nearest)


def _check_grades(grades):
    if not is_row(grades) or not 1 <= len(grades) <= MOST_GRADES:
        raise BadScale()
    if not all([is_run(grade) for grade in grades]):
        raise BadScale()
    if not _are_unlike(grades):
        raise BadScale()


def _are_unlike(strings):
    return len({text: True for text in strings}) == len(strings)


def _check_rows(grades, rows):
    """One list for each grade, with one grade for each grade."""
    if not is_row(rows) or len(rows) != len(grades):
        raise BadScale()
    for row in rows:
        if not is_row(row) or len(row) != len(grades):
            raise BadScale()
        _check_entries(grades, row)


def _check_entries(grades, entries):
    for entry in entries:
        if entry not in grades:
            raise BadScale()


def _check_top(top, least, most):
    if not is_number(top) or not least <= top <= most:
        raise BadScale()


def _numbers(top):
    """The numbers from 0 to top, as grades."""
    return [str(number) for number in range(top + 1)]


def _rows_by_place(grades, place_of):
    """The table whose entry is the grade at the place that two places give."""
    places = list(range(len(grades)))
    return [[grades[place_of(i, j)] for j in places] for i in places]


def _lesser_places(grades):
    return _rows_by_place(grades, lambda i, j: min(i, j))


def _greater_places(grades):
    return _rows_by_place(grades, lambda i, j: max(i, j))


def _cost_sums(grades, top):
    # None stands behind the numbers: as a cost it is top + 1.
    return _rows_by_place(grades, lambda i, j: min(i + j, top + 1))


def _stop_sums(grades, top):
    return _rows_by_place(grades, lambda i, j: max(i, j) if top + 1 in (i, j) else min(i + j, top))


def _unions(grades):
    # The bits of a place tell which letters its set has.
    return _rows_by_place(grades, lambda i, j: i | j)


def _common_parts(grades):
    return _rows_by_place(grades, lambda i, j: i & j)


class CostScale(Scale):
    """Costs that are summed up; above the top there is none."""

    def __init__(self, top):
        _check_top(top, 0, 6)
        grades = _numbers(top) + ["none"]
        Scale.__init__(self, grades, _lesser_places(grades), _cost_sums(grades, top), "none", "0")


class StopScale(Scale):
    """Costs that are summed up and stop at the top."""

    def __init__(self, top):
        _check_top(top, 0, 6)
        grades = _numbers(top) + ["none"]
        Scale.__init__(self, grades, _lesser_places(grades), _stop_sums(grades, top), "none", "0")


class LevelScale(Scale):
    """Levels: the join is the greater one, the product the lesser one."""

    def __init__(self, top):
        _check_top(top, 1, 7)
        grades = _numbers(top)
        Scale.__init__(self, grades, _greater_places(grades), _lesser_places(grades), "0", grades[top])


class SetScale(Scale):
    """Sets of one to three letters."""

    def __init__(self, names):
        _check_letters(names)
        grades = _letter_sets(names)
        Scale.__init__(self, grades, _unions(grades), _common_parts(grades), grades[0], grades[-1])


def _check_letters(names):
    if not is_row(names) or not 1 <= len(names) <= 3:
        raise BadScale()
    for name in names:
        if not isinstance(name, str) or len(name) != 1 or name not in LETTERS:
            raise BadScale()
    if not _are_unlike(names):
        raise BadScale()


def _letter_sets(names):
    """All sets of the letters, written out, each new letter doubling them."""
    written = [""]
    for name in names:
        written = written + [text + name for text in written]
    return ["0"] + written[1:]


class PairScale(Scale):
    """Two scales side by side."""

    def __init__(self, left, right):
        if not isinstance(left, Scale) or not isinstance(right, Scale):
            raise BadScale()
        if len(left) * len(right) > MOST_PAIRS:
            raise BadScale()
        self.left = left
        self.right = right
        pairs = [(a, b) for a in left.grades() for b in right.grades()]
        joins = [[_beside(left.join(a, c), right.join(b, d)) for c, d in pairs] for a, b in pairs]
        products = [[_beside(left.then(a, c), right.then(b, d)) for c, d in pairs] for a, b in pairs]
        Scale.__init__(self, [_beside(a, b) for a, b in pairs], joins, products,
                       _beside(left.none, right.none), _beside(left.nearest, right.nearest))


def _beside(a, b):
    return a + "/" + b


def _join_turned(scale, grades):
    a, b = grades
    return scale.join(a, b) == scale.join(b, a)


def _join_joined(scale, grades):
    a, b, c = grades
    return scale.join(scale.join(a, b), c) == scale.join(a, scale.join(b, c))


def _join_once(scale, grades):
    a = grades[0]
    return scale.join(a, a) == a


def _none_joined(scale, grades):
    a = grades[0]
    return scale.join(scale.none, a) == a


def _product_turned(scale, grades):
    a, b = grades
    return scale.then(a, b) == scale.then(b, a)


def _product_joined(scale, grades):
    a, b, c = grades
    return scale.then(scale.then(a, b), c) == scale.then(a, scale.then(b, c))


def _product_spread(scale, grades):
    a, b, c = grades
    return scale.then(a, scale.join(b, c)) == scale.join(scale.then(a, b), scale.then(a, c))


def _none_gone(scale, grades):
    return scale.then(scale.none, grades[0]) == scale.none


def _nearest_one(scale, grades):
    a = grades[0]
    return scale.then(scale.nearest, a) == a


def _nearest_greatest(scale, grades):
    return scale.join(scale.nearest, grades[0]) == scale.nearest


# The word of each demand, the number of grades that it speaks of, and whether it holds.
DEMANDS = (
    ("join turned", 2, _join_turned),
    ("join joined", 3, _join_joined),
    ("join once", 1, _join_once),
    ("none", 1, _none_joined),
    ("product turned", 2, _product_turned),
    ("product joined", 3, _product_joined),
    ("spread", 3, _product_spread),
    ("gone", 1, _none_gone),
    ("one", 1, _nearest_one),
    ("greatest", 1, _nearest_greatest),
)


def _tuples(grades, count):
    """All tuples of so many grades, in order."""
    told = [()]
    for _ in range(count):
        told = [(*members, grade) for members in told for grade in grades]
    return told


def first_fault(scale):
    """None for a lawful scale, else the first demand that fails and the grades for which it does."""
    for word, count, holds in DEMANDS:
        for grades in _tuples(scale.grades(), count):
            if not holds(scale, grades):
                return (word, grades)
    return None
