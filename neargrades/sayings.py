"""Sayings, which tell that states are no nearer, and lines, which tell sayings whose parts are shared."""

from neargrades.errors import BadSaying, TooMany
from neargrades.lines import checked_places, check_lines, count_parts, lines_of, saying_of_line
from neargrades.sayforms import STATES, has_form, inner_parts, may_stand, part_places
from neargrades.shelves import Plan

MOST_PARTS = 400


def check_saying(kind, scale, saying):
    """Raise BadSaying for the first part without a form of its place, unless any value is a saying about states."""
    checked_parts(Plan(kind), scale, saying, STATES)


def checked_parts(plan, scale, saying, place):
    """The list of the (path, part) of all parts of a saying at a place; BadSaying for the first without a form."""
    told = []
    waiting = [((), saying, place)]
    while waiting:
        path, part, where = waiting.pop()
        if not has_form(scale, part) or not may_stand(plan, where, part):
            raise BadSaying(path)
        told.append((path, part))
        parts = inner_parts(part)
        places = part_places(plan, where, part)
        # The last one of the list is the next one, so the parts are put there turned.
        waiting.extend([((*path, k), parts[k], places[k]) for k in range(len(parts))][::-1])
    return told


def depth(kind, scale, saying):
    """The most steps that stand in one another."""
    check_saying(kind, scale, saying)
    deepest = 0
    waiting = [(saying, 0)]
    while waiting:
        part, outer = waiting.pop()
        steps = outer + 1 if part[0] == "step" else outer
        deepest = max(deepest, steps)
        waiting.extend([(inner, steps) for inner in inner_parts(part)])
    return deepest


def parts_of(kind, scale, saying):
    """The list of the (path, part) of all parts, each ahead of its parts."""
    return checked_parts(Plan(kind), scale, saying, STATES)


def shared(kind, scale, saying):
    """The list of the lines of a saying about states."""
    check_saying(kind, scale, saying)
    return lines_of(saying)


def written_out(kind, scale, lines, number):
    """The saying about states that a line tells."""
    check_lines(scale, lines, number)
    checked_places(Plan(kind), lines, number, STATES)
    if count_parts(lines, number, MOST_PARTS) > MOST_PARTS:
        raise TooMany()
    return saying_of_line(lines, number)
