"""Trimming: parts of a saying that parts two states give way to less, as long as it parts them yet.

A saying's worth goes along with those of its parts: it is greater where they are. So a part that gives way to a
greater one lets the worth at x be nearest, as it was, and only that at y is asked; one that gives way to a lesser one
lets the grade be outside of the worth at y, and only that at x is asked. What failed fails again, unless something
has given way to a lesser one, or to a greater one, in the meantime.
"""

from neargrades.residues import within
from neargrades.sayforms import STATES, gathered, part_places
from neargrades.shelves import Plan
from neargrades.systems import steps_of
from neargrades.weighing import Weigher

LESSER = 0
GREATER = 1
# The words of sayings whose parts are never less than the whole, and of those whose parts are never more.
GREATER_PARTS = ("and", "by")
LESSER_PARTS = ("or", "if")


class Piece:
    """A part of a saying: what it begins with, its place, its parts, and what it stands in."""

    def __init__(self, head, place, parts):
        self.head = head
        self.place = place
        self.parts = parts
        self.above = None
        self.position = 0
        # The numbers of its worths, those at the states and values of each of the two systems.
        self.codes = [0, 0]
        # What was tried in its place and failed.
        self.failed = {}
        for k in range(len(parts)):
            parts[k].above = self
            parts[k].position = k

    def exchange(self, other):
        """Let another piece stand where this one stands, unless this is the whole."""
        other.above = self.above
        other.position = self.position
        if self.above is not None:
            self.above.parts[self.position] = other


class WorthBook:
    """The worths of pieces at all states and values of a system, equal rows of them under one number."""

    def __init__(self, system):
        self._weigher = Weigher(system, steps_of(system))
        self._rows = []
        self._row_numbers = {}
        self._known = {}

    def code_of(self, head, place, codes):
        """The number of the worths of a piece, from those of its parts."""
        key = (head, place, codes)
        if key not in self._known:
            row = self._weigher.row_of(head, place, [self._rows[code] for code in codes])
            self._known[key] = self._row_number(tuple(row))
        return self._known[key]

    def worth_in(self, code, x):
        """The worth at a state, by the number of the worths at all states."""
        return self._rows[code][self._weigher.place_of_state(x)]

    def _row_number(self, row):
        if row not in self._row_numbers:
            self._row_numbers[row] = len(self._rows)
            self._rows.append(row)
        return self._row_numbers[row]


class Trimmer:
    """A saying that parts a state from another one by a grade, and what is left of it."""

    def __init__(self, system, other, x, y, grade, saying):
        self._scale = system.scale
        self._books = (WorthBook(system), WorthBook(other))
        self._x = x
        self._y = y
        self._grade = grade
        self._whole = self._pieces_of(Plan(system.kind), saying)
        # How often a part gave way to a lesser one, and to a greater one.
        self._changes = [0, 0]

    def trim(self):
        """Let parts give way until none can."""
        while self._trim_once():
            pass

    def saying_left(self):
        """The saying that is left."""
        told = {}
        for piece in self._pieces()[::-1]:
            told[piece] = _saying_of(piece, [told[part] for part in piece.parts])
        return told[self._whole]

    def _pieces_of(self, plan, saying):
        return gathered(
            saying, STATES,
            lambda place, part: part_places(plan, place, part),
            lambda part, place, parts: self._piece(part, place, parts),
        )

    def _piece(self, part, place, parts):
        head = part[:len(part) - len(parts)] if isinstance(part, tuple) else part
        piece = Piece(head, place, parts)
        self._weigh(piece)
        return piece

    def _weigh(self, piece):
        for side in (0, 1):
            piece.codes[side] = self._code_above(side, piece, [part.codes[side] for part in piece.parts])

    def _code_above(self, side, piece, codes):
        """The number of the worths that a piece has by one system if its parts have those of some numbers."""
        return self._books[side].code_of(piece.head, piece.place, tuple(codes))

    def _pieces(self):
        """The list of all pieces, each ahead of its parts, in order."""
        told = []
        waiting = [self._whole]
        while waiting:
            piece = waiting.pop()
            told.append(piece)
            waiting.extend(piece.parts[::-1])
        return told

    def _trim_once(self):
        """Let the first part give way that can; tell whether there was one."""
        for piece in self._pieces():
            if isinstance(piece.head, tuple) and self._gives_way(piece):
                return True
        return False

    def _gives_way(self, piece):
        """Whether one of what is tried in the place of a piece stands there now."""
        for key, side, other in self._tried_for(piece):
            if piece.failed.get(key) != self._changes[1 - side]:
                if self._parts_with(piece, side, other):
                    self._take(piece, side, other)
                    return True
                piece.failed[key] = self._changes[1 - side]
        return False

    def _tried_for(self, piece):
        """The list of the (key, side, piece) that are tried in the place of one; the side tells what they are to it."""
        scale = self._scale
        tried = [(-2, GREATER, self._piece(scale.nearest, piece.place, [])),
                 (-1, LESSER, self._piece(scale.none, piece.place, []))]
        numbers = range(len(piece.parts))
        if piece.head[0] in GREATER_PARTS:
            tried.extend([(k, GREATER, piece.parts[k]) for k in numbers])
        if piece.head[0] in LESSER_PARTS:
            tried.extend([(k, LESSER, piece.parts[k]) for k in numbers])
        return tried

    def _parts_with(self, piece, side, other):
        """Whether the saying parts yet with another piece in the place of one, which is lesser or greater."""
        code = other.codes[side]
        while piece.above is not None and code != piece.codes[side]:
            above = piece.above
            codes = [part.codes[side] for part in above.parts]
            codes[piece.position] = code
            code = self._code_above(side, above, codes)
            piece = above
        if code == piece.codes[side]:
            return True
        if side == LESSER:
            return self._books[0].worth_in(code, self._x) == self._scale.nearest
        return not within(self._scale, self._grade, self._books[1].worth_in(code, self._y))

    def _take(self, piece, side, other):
        piece.exchange(other)
        if piece.above is None:
            self._whole = other
        self._changes[side] += 1
        above = other.above
        while above is not None:
            self._weigh(above)
            above = above.above


def _saying_of(piece, parts):
    return (*piece.head, *parts) if isinstance(piece.head, tuple) else piece.head


def trimmed(system, other, x, y, grade, saying):
    """What is left of a saying that parts x from y by a grade."""
    trimmer = Trimmer(system, other, x, y, grade, saying)
    trimmer.trim()
    return trimmer.saying_left()
