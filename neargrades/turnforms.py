"""The forms of turns, and what each of them does to the stone at its path and to what is about it."""

from neargrades.errors import BadKind, BadTurn
from neargrades.kinds import SIDES, kind_at
from neargrades.spaces import Space
from neargrades.words import is_number, is_word

HALVED = ("both", "along")


def check_turn(kind, turn):
    """Raise BadTurn unless any value is a turn for the kind."""
    if not isinstance(turn, tuple) or len(turn) < 2 or not isinstance(turn[1], tuple):
        raise BadTurn()
    try:
        stone = kind_at(kind, turn[1])
    except BadKind:
        raise BadTurn()
    if not _is_for(stone, turn[0], turn[2:]):
        raise BadTurn()


def _is_for(stone, word, rest):
    """Whether a turn with any values as its word and behind its path is one for a stone."""
    if word == "swap":
        return stone[0] in HALVED and not rest
    if word == "sides":
        return stone[0] == "either" and not rest
    if len(rest) != 1:
        return False
    if word == "order":
        return stone[0] == "row" and _is_order(rest[0], len(stone[1]))
    if word == "drop":
        return is_number(rest[0]) and 0 <= rest[0] < _count_of_drops(stone)
    return word == "names" and stone[0] == "names" and _are_names(rest[0], len(stone[1]))


def _is_order(value, count):
    if not isinstance(value, tuple) or not all([is_number(number) for number in value]):
        return False
    return sorted(list(value)) == list(range(count))


def _count_of_drops(stone):
    """How many halves or letters there are one of which may go."""
    if stone[0] in HALVED:
        return 2
    return len(stone[1]) if stone[0] == "row" and len(stone[1]) > 1 else 0


def _are_names(value, count):
    if not isinstance(value, tuple) or len(value) != count or not all([is_word(name) for name in value]):
        return False
    return len({name: True for name in value}) == count


def _order_of(stone, turn):
    """The numbers of the halves or letters that a stone has, in the order in which the turn leaves them."""
    if turn[0] == "swap":
        return (1, 0)
    if turn[0] == "order":
        return turn[2]
    count = 2 if stone[0] in HALVED else len(stone[1])
    return tuple([k for k in range(count) if k != turn[2]])


def turned_stone(stone, turn):
    """The stone behind a turn."""
    word = turn[0]
    if word == "names":
        return ("names", _renamed_space(stone[1], turn[2]))
    if word == "sides":
        return ("either", stone[2], stone[1])
    order = _order_of(stone, turn)
    if stone[0] == "row":
        return ("row", tuple([stone[1][k] for k in order]), stone[2])
    parts = [stone[1 + k] for k in order]
    return parts[0] if word == "drop" else (stone[0], *parts)


def _renamed_space(space, names):
    elder = space.names()
    return Space(space.scale, list(names), [[space.near(a, b) for b in elder] for a in elder])


def turned_data(stone, value, turn):
    """A value of a stone, turned."""
    word = turn[0]
    if word == "names":
        return turn[2][stone[1].names().index(value)]
    if word == "sides":
        return (_other_side(value[0]), value[1])
    items = [value[k] for k in _order_of(stone, turn)]
    return items[0] if word == "drop" and stone[0] != "row" else tuple(items)


def _other_side(side):
    return SIDES[1 - SIDES.index(side)]


def turned_items(stone, saying, turn):
    """A saying about values of a stone, of a form of this sort of stones alone, behind a turn that is no drop."""
    if turn[0] == "names":
        return ("like", turn[2][stone[1].names().index(saying[1])])
    if turn[0] == "sides":
        return (_other_side(saying[0]), saying[1])
    return (saying[0], *[saying[1 + k] for k in _order_of(stone, turn)])


def inverse_turn(stone, turn):
    """The turn that leads back from what a turn that is no drop makes of a stone."""
    if turn[0] == "names":
        return ("names", turn[1], tuple(stone[1].names()))
    if turn[0] == "order":
        return ("order", turn[1], tuple([turn[2].index(k) for k in range(len(turn[2]))]))
    return turn
