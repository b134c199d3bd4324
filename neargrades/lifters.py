"""Lifted nearness that is worked out when it is asked for, and again only where the table has changed."""

from neargrades.gradetables import GradeTables
from neargrades.kinds import SETS
from neargrades.shelves import Plan, Shelf


class Lifter:
    """A table, and the lifted nearness by it of each two of some values."""

    def __init__(self, kind, scale, values, others, table):
        """Hold two dicts from names to values of a kind, and a table over the scale."""
        self._grades = GradeTables(scale)
        self._plan = Plan(kind)
        self._one = Shelf(self._plan, values)
        self._two = Shelf(self._plan, others)
        self._table = {pair: table[pair] for pair in table}
        # For each stone, by the numbers of two parts there, their nearness; None is what is not known.
        stones = list(range(len(self._plan.kinds)))
        self._cells = [_unknown(self._one.size(stone), self._two.size(stone)) for stone in stones]
        # For each stone of members the joins of which a meet makes the nearness of two sets, by member and by set.
        # Many sets have a member in common: so these are kept, too.
        self._to_sets = [_unknown(self._one.size(stone), self._two.sets_above(stone)) for stone in stones]
        self._from_sets = [_unknown(self._one.sets_above(stone), self._two.size(stone)) for stone in stones]
        self._begin_anew()

    def lifted(self, x, y):
        """The lifted nearness of the values that stand under two names."""
        if self._is_stale:
            self._settle()
        return self._cell(0, self._one.roots[x], self._two.roots[y])

    def holds(self, grade, x, y):
        """Whether a grade is within the lifted nearness of the values under two names."""
        return self._grades.is_within(grade, self.lifted(x, y))

    def put(self, x, y, grade):
        """Let the table have this grade at a pair of states."""
        self._table[(x, y)] = grade
        for stone in range(len(self._plan.kinds)):
            if self._plan.word(stone) == "next":
                i = self._one.number_of(stone, x)
                j = self._two.number_of(stone, y)
                if i is not None and j is not None:
                    self._stale_cells[stone][(i, j)] = True
                    self._is_stale = True

    def _begin_anew(self):
        """Nothing that is known may be wrong."""
        self._stale_cells = [{} for kind in self._plan.kinds]
        self._stale_to = [{} for kind in self._plan.kinds]
        self._stale_from = [{} for kind in self._plan.kinds]
        self._is_stale = False

    def _settle(self):
        """Work out again what may be wrong; parts have greater numbers, and come ahead of what they stand in."""
        for stone in range(len(self._plan.kinds) - 1, -1, -1):
            for i, j in list(self._stale_cells[stone]):
                self._settle_cell(stone, i, j)
            for i, q in list(self._stale_to[stone]):
                self._settle_to_set(stone, i, q)
            for p, j in list(self._stale_from[stone]):
                self._settle_from_set(stone, p, j)
        self._begin_anew()

    def _settle_cell(self, stone, i, j):
        row = self._cells[stone][i]
        old = row[j]
        # Where a cell is not known, nothing that is known was worked out from it.
        if old is None:
            return
        row[j] = self._worked_out(stone, i, j)
        if row[j] != old:
            self._note_users(stone, i, j)

    def _note_users(self, stone, i, j):
        """What was worked out from a cell may be wrong."""
        firsts = self._one.users[stone][i]
        seconds = self._two.users[stone][j]
        if not self._plan.is_member(stone):
            self._note_above(stone, firsts, seconds)
            return
        for p in firsts:
            self._stale_from[stone][(p, j)] = True
        for q in seconds:
            self._stale_to[stone][(i, q)] = True

    def _note_above(self, stone, firsts, seconds):
        """The cells of what a part of a stone stands in may be wrong."""
        for p in firsts:
            for q in seconds:
                self._stale_cells[self._plan.above[stone]][(p, q)] = True

    def _settle_to_set(self, stone, i, q):
        row = self._to_sets[stone][i]
        old = row[q]
        if old is not None:
            row[q] = None
            if self._to_set(stone, i, q) != old:
                self._note_above(stone, self._one.users[stone][i], [q])

    def _settle_from_set(self, stone, p, j):
        row = self._from_sets[stone][p]
        old = row[j]
        if old is not None:
            row[j] = None
            if self._from_set(stone, p, j) != old:
                self._note_above(stone, [p], self._two.users[stone][j])

    def _cell(self, stone, i, j):
        row = self._cells[stone][i]
        if row[j] is None:
            row[j] = self._worked_out(stone, i, j)
        return row[j]

    def _worked_out(self, stone, i, j):
        code = self._one.codes[stone][i]
        other = self._two.codes[stone][j]
        word = self._plan.word(stone)
        if word == "names":
            return self._plan.kinds[stone][1].near(code, other)
        if word == "next":
            return self._table.get((code, other), self._grades.none)
        if word in SETS:
            return self._of_sets(stone, i, j)
        parts = self._plan.parts[stone]
        if word == "either":
            return self._of_sides(parts, code, other)
        if word == "row":
            return self._grades.meet_all([self._cell(parts[0], code[k], other[k]) for k in range(len(code))])
        first, second = [self._cell(parts[k], code[k], other[k]) for k in (0, 1)]
        return self._grades.meets[first][second] if word == "both" else self._grades.products[first][second]

    def _of_sides(self, parts, code, other):
        if code[0] != other[0]:
            return self._grades.none
        return self._cell(parts[code[0]], code[1], other[1])

    def _of_sets(self, stone, p, q):
        part = self._plan.parts[stone][0]
        onlys = self._grades.onlys
        told = []
        # A grade is no empty string: so "or" goes on just where nothing is known.
        if self._plan.word(stone) != "back":
            rows = self._to_sets[part]
            told.extend([onlys[grade][rows[i][q] or self._to_set(part, i, q)]
                         for i, grade in self._one.codes[stone][p]])
        if self._plan.word(stone) != "forth":
            row = self._from_sets[part][p]
            told.extend([onlys[grade][row[j] or self._from_set(part, p, j)]
                         for j, grade in self._two.codes[stone][q]])
        return self._grades.meet_all(told)

    def _to_set(self, part, i, q):
        """The join, over the members of the set q, of the nearness of i and the member times its grade."""
        row = self._to_sets[part][i]
        if row[q] is None:
            cells = self._cells[part][i]
            products = self._grades.products
            members = self._two.codes[self._plan.above[part]][q]
            row[q] = self._grades.join_all([products[cells[j] or self._cell(part, i, j)][grade]
                                            for j, grade in members])
        return row[q]

    def _from_set(self, part, p, j):
        """The join, over the members of the set p, of the nearness of the member and j times its grade."""
        row = self._from_sets[part][p]
        if row[j] is None:
            cells = self._cells[part]
            products = self._grades.products
            members = self._one.codes[self._plan.above[part]][p]
            row[j] = self._grades.join_all([products[cells[i][j] or self._cell(part, i, j)][grade]
                                            for i, grade in members])
        return row[j]


def _unknown(rows, columns):
    """So many rows of so many cells of which none is known."""
    return [[None] * columns for row in range(rows)]
