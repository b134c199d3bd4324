"""Finding few pairs that are enough to hold the grade of one."""

from neargrades.kinds import SETS
from neargrades.lifters import Lifter


class Finder(Lifter):
    """A table that is let by, with a way to find fewer pairs of it that are let by, too."""

    def enough_for(self, x, y):
        """A list of pairs, this one first, whose part of the table is let by."""
        self._found = []
        self._seen = {}
        self._find(x, y)
        done = 0
        while done < len(self._found):
            x, y = self._found[done]
            self._need(0, self._one.roots[x], self._two.roots[y], self._table[(x, y)])
            done += 1
        return self._found

    def _find(self, x, y):
        if (x, y) not in self._seen:
            self._seen[(x, y)] = True
            self._found.append((x, y))

    def _need(self, stone, i, j, grade):
        """Find pairs that are enough for two parts to have a grade that is within their nearness."""
        if grade == self._grades.none or (stone, i, j, grade) in self._seen:
            return
        self._seen[(stone, i, j, grade)] = True
        code = self._one.codes[stone][i]
        other = self._two.codes[stone][j]
        word = self._plan.word(stone)
        parts = self._plan.parts[stone]
        if word == "next":
            self._find(code, other)
        elif word in SETS:
            self._need_of_sets(stone, code, other, grade)
        elif word == "either":
            self._need(parts[code[0]], code[1], other[1], grade)
        elif word == "row":
            for k in range(len(code)):
                self._need(parts[0], code[k], other[k], grade)
        elif word != "names":
            for k in (0, 1):
                # What less than all of a half is enough for is not plain where halves are multiplied.
                inner = grade if word == "both" else self._cell(parts[k], code[k], other[k])
                self._need(parts[k], code[k], other[k], inner)

    def _need_of_sets(self, stone, code, other, grade):
        part = self._plan.parts[stone][0]
        if self._plan.word(stone) != "back":
            for i, further in code:
                self._need_one(part, [(i, j, h) for j, h in other], self._grades.products[further][grade])
        if self._plan.word(stone) != "forth":
            for j, further in other:
                self._need_one(part, [(i, j, g) for i, g in code], self._grades.products[further][grade])

    def _need_one(self, part, members, grade):
        """Find pairs that are enough for the join of what some members (i, j, grade) give to have a grade."""
        gives = [self._grades.products[self._cell(part, i, j)][further] for i, j, further in members]
        for k in self._fewest(gives, grade):
            i, j, _ = members[k]
            self._need(part, i, j, self._cell(part, i, j))

    def _fewest(self, gives, grade):
        """The numbers of some grades whose join has a grade, while that of fewer of them has not."""
        if grade == self._grades.none:
            return []
        for k in range(len(gives)):
            if self._grades.is_within(grade, gives[k]):
                return [k]
        kept = list(range(len(gives)))
        for k in range(len(gives)):
            fewer = [number for number in kept if number != k]
            if self._grades.is_within(grade, self._grades.join_all([gives[number] for number in fewer])):
                kept = fewer
        return kept
