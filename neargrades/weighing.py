"""The worths of lines, each worked out once at all states, or at all values of a stone that there are."""

from neargrades.gradetables import GradeTables
from neargrades.kinds import SIDES
from neargrades.sayforms import STATES
from neargrades.shelves import Plan, Shelf


class Weigher:
    """Weighs lines by a system at its states and at values over them."""

    def __init__(self, system, values):
        """Hold a dict from the states, and perhaps from more, to the values that worths are asked at."""
        self._states = system.states()
        self._places = {self._states[k]: k for k in range(len(self._states))}
        self._plan = Plan(system.kind)
        self._shelf = Shelf(self._plan, values)
        self._grades = GradeTables(system.scale)

    def at_states(self, lines, places):
        """A dict from all states, in order, to the worths of the saying of the last of some lines.

        Its lines stand at right places, as line_places tells them.
        """
        row = self._weighed(lines, places)[STATES]
        return {self._states[k]: row[k] for k in range(len(row))}

    def at_value(self, lines, places, name):
        """The worth of such a saying, if it is about values, at the value that stands under a name."""
        return self._weighed(lines, places)[0][self._shelf.roots[name]]

    def _weighed(self, lines, places):
        """A dict from the places of the last line to its worths there."""
        rows = []
        for k in range(len(places)):
            rows.append({where: self.row_of(lines[k], where, [rows[part][at] for part, at in inner])
                         for where, inner in places[k].items()})
        return rows[-1]

    def place_of_state(self, x):
        """Where the worth at a state stands in a row of the worths at all states."""
        return self._places[x]

    def row_of(self, line, place, rows):
        """The worths of a line at all that stands at a place; rows are those of its parts.

        What the line has in the place of its parts is not looked at.
        """
        if not isinstance(line, tuple):
            return [line] * self._size(place)
        word = line[0]
        places = range(self._size(place))
        if word == "and":
            return [self._grades.meets[rows[0][k]][rows[1][k]] for k in places]
        if word == "or":
            return [self._grades.joins[rows[0][k]][rows[1][k]] for k in places]
        if word == "by":
            return [self._grades.products[line[1]][worth] for worth in rows[0]]
        if word == "if":
            return [self._grades.onlys[line[1]][worth] for worth in rows[0]]
        if word == "step":
            return [rows[0][self._shelf.roots[x]] for x in self._states]
        codes = self._shelf.codes[place]
        if word == "like":
            space = self._plan.kinds[place][1]
            return [space.near(line[1], name) for name in codes]
        if word == "now":
            return [rows[0][self._places[z]] for z in codes]
        return [self._of_parts(word, place, code, rows) for code in codes]

    def _size(self, place):
        return len(self._states) if place == STATES else self._shelf.size(place)

    def _of_parts(self, word, place, code, rows):
        """The worth at what has parts; rows are those of the parts of the saying."""
        grades = self._grades
        if word == "halves":
            table = grades.meets if self._plan.word(place) == "both" else grades.products
            return table[rows[0][code[0]]][rows[1][code[1]]]
        if word == "rows":
            return grades.meet_all([rows[k][code[k]] for k in range(len(code))])
        if word == "some":
            return grades.join_all([grades.products[grade][rows[0][k]] for k, grade in code])
        if word == "all":
            return grades.meet_all([grades.onlys[grade][rows[0][k]] for k, grade in code])
        return rows[0][code[1]] if code[0] == SIDES.index(word) else grades.none
