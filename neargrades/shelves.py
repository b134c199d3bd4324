"""Shelves: values of a kind and all that stands in them, each unlike part once, under a number.

Values are tuples that may be deep; here each is told by the numbers of its parts instead.
"""

from neargrades.kinds import SETS, SIDES, parts_of_kind


class Plan:
    """The stones of a kind, each under a number: 0 is the whole, the parts of a stone stand behind it."""

    def __init__(self, kind):
        self.kinds = [kind]
        self.parts = []
        self.above = [None]
        while len(self.parts) < len(self.kinds):
            stone = len(self.parts)
            inner = parts_of_kind(self.kinds[stone])
            self.parts.append([len(self.kinds) + k for k in range(len(inner))])
            self.kinds.extend(inner)
            self.above.extend([stone] * len(inner))

    def word(self, stone):
        """The word of a stone."""
        return self.kinds[stone][0]

    def stone_at(self, path):
        """The number of the stone at a path of the kind."""
        stone = 0
        for number in path:
            stone = self.parts[stone][number]
        return stone

    def is_member(self, stone):
        """Whether what stands at a stone is a member of a set."""
        return stone > 0 and self.word(self.above[stone]) in SETS


class Shelf:
    """The values of some names, and their parts, stone by stone."""

    def __init__(self, plan, values):
        """Hold a dict from names to values of the plan's kind."""
        self.plan = plan
        # What stands under a number: a name or a state, or a tuple of the numbers of its parts.
        self.codes = [[] for part in plan.kinds]
        # Under each number the numbers of those that it stands in directly.
        self.users = [[] for part in plan.kinds]
        self._places = [{} for part in plan.kinds]
        self.roots = {name: self._number(0, value) for name, value in values.items()}

    def size(self, stone):
        """How many unlike parts stand at a stone."""
        return len(self.codes[stone])

    def sets_above(self, stone):
        """How many unlike sets have what stands at a stone as their members."""
        return self.size(self.plan.above[stone]) if self.plan.is_member(stone) else 0

    def number_of(self, stone, code):
        """The number of a code, None if it stands nowhere."""
        return self._places[stone].get(code)

    def _number(self, stone, value):
        code = self._code(stone, value)
        numbers = self._places[stone]
        if code not in numbers:
            numbers[code] = len(numbers)
            self.codes[stone].append(code)
            self.users[stone].append([])
            for part, number in self._parts_of_code(stone, code):
                self.users[part][number].append(numbers[code])
        return numbers[code]

    def _code(self, stone, value):
        word = self.plan.word(stone)
        parts = self.plan.parts[stone]
        if word in ("names", "next"):
            return value
        if word == "either":
            side = SIDES.index(value[0])
            return (side, self._number(parts[side], value[1]))
        if word in SETS:
            return tuple([(self._number(parts[0], inner), grade) for inner, grade in value])
        if word == "row":
            return tuple([self._number(parts[0], inner) for inner in value])
        return tuple([self._number(parts[k], value[k]) for k in range(len(parts))])

    def _parts_of_code(self, stone, code):
        """The list of the pairs (stone, number) of the parts that stand directly in a code."""
        word = self.plan.word(stone)
        parts = self.plan.parts[stone]
        if word == "either":
            return [(parts[code[0]], code[1])]
        if word in SETS:
            return [(parts[0], number) for number, grade in code]
        if word == "row":
            return [(parts[0], number) for number in code]
        return [(parts[k], code[k]) for k in range(len(parts))]
