"""Lines: sayings whose parts are shared. Nothing here writes them out but saying_of_line."""

from neargrades.errors import BadSaying, NoState
from neargrades.sayforms import (
    gathered, inner_parts, is_line, may_stand, part_places, same_places, with_parts,
)
from neargrades.words import is_number, is_row


def check_lines(scale, lines, number):
    """Raise BadSaying unless any value is a list of lines, then NoState unless number is that of one of them."""
    if not is_row(lines):
        raise BadSaying(())
    for k in range(len(lines)):
        if not is_line(scale, lines[k], k):
            raise BadSaying((k,))
    if not is_number(number) or not 0 <= number < len(lines):
        raise NoState(number)


class LineBook:
    """Lines that stand one behind another, equal ones once."""

    def __init__(self):
        self.lines = []
        self._line_numbers = {}

    def number_for(self, line):
        """The number of a line, which is put at the end unless it stands there already."""
        if line not in self._line_numbers:
            self._line_numbers[line] = len(self.lines)
            self.lines.append(line)
        return self._line_numbers[line]


def lines_of(saying):
    """The list of the lines of a saying, its own one last."""
    book = LineBook()
    gathered(saying, None, same_places, lambda part, place, numbers: book.number_for(with_parts(part, numbers)))
    return book.lines


def line_places(plan, lines, number, place):
    """For each line up to a number a dict from the places where it stands in the saying of this number.

    It tells for each place the list of the (number, place) of the line's parts there, or None where the line may
    not stand: behind that one does not go on.
    """
    told = [{} for k in range(number + 1)]
    told[number][place] = None
    for k in range(number, -1, -1):
        for where in list(told[k]):
            if may_stand(plan, where, lines[k]):
                told[k][where] = _parts_at(plan, lines[k], where)
                for part, inner in told[k][where]:
                    told[part].setdefault(inner, None)
    return told


def _parts_at(plan, line, place):
    """The list of the (number, place) of the parts of a line that may stand at a place."""
    parts = inner_parts(line)
    places = part_places(plan, place, line)
    return [(parts[k], places[k]) for k in range(len(parts))]


def checked_places(plan, lines, number, place):
    """What line_places tells; BadSaying for the first part of the saying of a line that may not stand at its place."""
    told = line_places(plan, lines, number, place)
    if any([None in list(places.values()) for places in told]):
        raise BadSaying(_first_wrong_path(told, number, place))
    return told


def _first_wrong_path(told, number, place):
    """The path of the first part that may not stand at its place."""
    wrong = _wrong_lines(told)
    path = []
    while told[number][place] is not None:
        inner = told[number][place]
        k = [wrong[part][where] for part, where in inner].index(True)
        path.append(k)
        number, place = inner[k]
    return path


def _wrong_lines(told):
    """For each line a dict that tells for each of its places whether some part of it may not stand there."""
    wrong = []
    for places in told:
        wrong.append({where: inner is None or any([wrong[part][at] for part, at in inner])
                      for where, inner in places.items()})
    return wrong


def count_on(counts, lines, most):
    """Count on, where some first lines are counted: all parts of each line's saying, most + 1 if there are more."""
    uncounted = lines[len(counts):]
    for line in uncounted:
        counts.append(min(1 + sum([counts[part] for part in inner_parts(line)]), most + 1))


def count_parts(lines, number, most):
    """The number of all parts of the saying of a line, most + 1 if it is greater."""
    counts = []
    count_on(counts, lines[:number + 1], most)
    return counts[number]


def saying_of_line(lines, number):
    """The saying of a line."""
    told = []
    for line in lines[:number + 1]:
        told.append(with_parts(line, [told[part] for part in inner_parts(line)]))
    return told[number]
