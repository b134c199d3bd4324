"""Kinds: tuples that tell what the steps of a system look like."""

from neargrades.errors import BadKind
from neargrades.spaces import Space
from neargrades.words import is_number, is_word

# How many kinds stand at the end of a stone.
PARTS = {
    "names": 0, "next": 0, "both": 2, "along": 2, "either": 2, "row": 1, "forth": 1, "back": 1, "kept": 1,
}
SETS = ("forth", "back", "kept")
SIDES = ("left", "right")
MOST_LETTERS = 3


def check_kind(kind, scale):
    """Raise BadKind for the first stone, each ahead of its parts, that has no form."""
    waiting = [((), kind)]
    while waiting:
        path, part = waiting.pop()
        if not _is_stone(part, scale):
            raise BadKind(path)
        # The last one of the list is the next one, so the parts are put there turned.
        waiting.extend(_parts_with_paths(path, part)[::-1])


def _is_stone(kind, scale):
    """Whether any value is a stone, whatever its parts are."""
    if not isinstance(kind, tuple) or not kind:
        return False
    word = kind[0]
    if not isinstance(word, str) or word not in PARTS:
        return False
    if word == "names":
        return len(kind) == 2 and isinstance(kind[1], Space) and kind[1].scale == scale
    if word == "row":
        return len(kind) == 3 and _are_letters(kind[1])
    return len(kind) == 1 + PARTS[word]


def _are_letters(letters):
    if not isinstance(letters, tuple) or not 1 <= len(letters) <= MOST_LETTERS:
        return False
    if not all([is_word(letter) for letter in letters]):
        return False
    return len({letter: True for letter in letters}) == len(letters)


def parts_of_kind(kind):
    """The list of the kinds that stand in a stone, K ahead of L."""
    return list(kind[len(kind) - PARTS[kind[0]]:])


def _parts_with_paths(path, kind):
    parts = parts_of_kind(kind)
    return [((*path, k), parts[k]) for k in range(len(parts))]


def side_kind(kind, side):
    """The kind of what stands on a side of a value of either."""
    return kind[1 + SIDES.index(side)]


def item_kinds(kind):
    """The kinds of the items of a value that is a tuple of so many: of both, along and row."""
    if kind[0] == "row":
        return [kind[2]] * len(kind[1])
    return parts_of_kind(kind)


def stones(kind):
    """The list of the pairs (path, word) of all stones, each ahead of its parts."""
    told = []
    waiting = [((), kind)]
    while waiting:
        path, part = waiting.pop()
        told.append((path, part[0]))
        waiting.extend(_parts_with_paths(path, part)[::-1])
    return told


def kind_at(kind, path):
    """The kind at a path."""
    part = kind
    for number in path:
        parts = parts_of_kind(part)
        if not is_number(number) or not 0 <= number < len(parts):
            raise BadKind(path)
        part = parts[number]
    return part


def has_next(kind):
    """Whether a stone ("next",) stands in the kind."""
    return "next" in [stone[1] for stone in stones(kind)]
