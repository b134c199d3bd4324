"""Lines: sayings whose parts are shared. Nothing here writes them out but saying_of_line."""

from neargrades.errors import BadSaying, NoState
from neargrades.sayforms import inner_parts, is_line, may_stand, part_places, with_parts
from neargrades.words import is_number, is_row


def check_lines(scale, lines, number):
    """Raise BadSaying unless any value is a list of lines, then NoState unless number is that of one of them."""
    if not is_row(lines):
        raise BadSaying(())
    for k in range(len(lines)):
        if not is_line(scale, lines[k], k):
            raise BadSaying((k,))
    if not is_number(number) or not 0 <= number < len(lines):
        raise NoState(number)


def lines_of(saying):
    """The list of the lines of a saying, its own one last."""
    lines = []
    numbers = {}
    # The numbers of the lines of what is done and is no part of anything done yet.
    done = []
    waiting = [(saying, False)]
    while waiting:
        part, is_begun = waiting.pop()
        parts = inner_parts(part)
        if not is_begun:
            # The last one of the list is the next one: first the parts, in order, then this one again.
            waiting.append((part, True))
            waiting.extend([(inner, False) for inner in parts[::-1]])
            continue
        line = with_parts(part, done[len(done) - len(parts):])
        if line not in numbers:
            numbers[line] = len(lines)
            lines.append(line)
        done = [*done[:len(done) - len(parts)], numbers[line]]
    return lines


def line_places(plan, lines, number, place):
    """For each line up to a number a list of the places where it stands in the saying of this number.

    Behind what may not stand at its place one does not go on.
    """
    told = [{} for k in range(number + 1)]
    told[number][place] = True
    for k in range(number, -1, -1):
        for where in list(told[k]):
            if may_stand(plan, where, lines[k]):
                for part, inner in parts_at(plan, lines[k], where):
                    told[part][inner] = True
    return [list(places) for places in told]


def parts_at(plan, line, place):
    """The list of the (number, place) of the parts of a line that may stand at a place."""
    parts = inner_parts(line)
    places = part_places(plan, place, line)
    return [(parts[k], places[k]) for k in range(len(parts))]


def check_line_at(plan, lines, number, place):
    """Raise BadSaying for the first part of the saying of a line that may not stand at its place."""
    wrong = _wrong_lines(plan, lines, line_places(plan, lines, number, place))
    if not wrong[number][place]:
        return
    path = []
    while may_stand(plan, place, lines[number]):
        inner = parts_at(plan, lines[number], place)
        k = [wrong[part][where] for part, where in inner].index(True)
        path.append(k)
        number, place = inner[k]
    raise BadSaying(path)


def _wrong_lines(plan, lines, places):
    """For each line a dict that tells for each of its places whether some part of it may not stand there."""
    told = []
    for k in range(len(places)):
        wrong = {}
        for place in places[k]:
            wrong[place] = not may_stand(plan, place, lines[k]) or any(
                [told[part][inner] for part, inner in parts_at(plan, lines[k], place)])
        told.append(wrong)
    return told


def count_parts(lines, number, most):
    """The number of all parts of the saying of a line, most + 1 if it is greater."""
    counts = []
    for line in lines[:number + 1]:
        counts.append(min(1 + sum([counts[part] for part in inner_parts(line)]), most + 1))
    return counts[number]


def saying_of_line(lines, number):
    """The saying of a line."""
    told = []
    for line in lines[:number + 1]:
        told.append(with_parts(line, [told[part] for part in inner_parts(line)]))
    return told[number]
