"""Told sayings, and sayings that part states: they tell that two states are no nearer."""

from neargrades.errors import BadSaying, NoState, TooMany, UnknownGrade
from neargrades.lines import count_on, count_parts, saying_of_line
from neargrades.pairs import check_pair
from neargrades.residues import within
from neargrades.rounds import round_below
from neargrades.sayings import MOST_PARTS, check_saying
from neargrades.systems import check_like, reached_from, steps_of
from neargrades.telling import Teller
from neargrades.trimming import trimmed
from neargrades.values import states_in
from neargrades.worths import worth_at, worths_of_line


def told_saying(system, x, rounds):
    """What a state is told behind so many rounds: the saying c(rounds, x)."""
    teller = _teller_of(system, [x], {})
    _make_rounds(teller, [x], rounds)
    return _written(teller.lines, teller.told[x])


def told_value(system, value, rounds):
    """What a value is told behind so many rounds: the saying e(rounds, value)."""
    states = states_in(system.kind, value)
    # States are strings: so 0 is a name that none of them has.
    teller = _teller_of(system, states, {0: value})
    _make_rounds(teller, states, rounds)
    number = teller.number_at(0)
    return _written(teller.lines, number)


def _teller_of(system, states, values):
    """A teller of all that is reached from some states, and of some values more; UnknownState as reached_from."""
    reached = reached_from(system, states)
    return Teller(system, reached, {**{z: system.step(z) for z in reached}, **values})


def _make_rounds(teller, states, rounds):
    """Make so many rounds; TooMany as soon as one of some states is told too much.

    What is told gets no shorter from round to round, and the states' sayings are parts of what is asked for.
    """
    counts = []
    for _ in range(rounds):
        if not teller.go_round():
            return
        count_on(counts, teller.lines, MOST_PARTS)
        if any([counts[teller.told[x]] > MOST_PARTS for x in states]):
            raise TooMany()


def _written(lines, number):
    if count_parts(lines, number, MOST_PARTS) > MOST_PARTS:
        raise TooMany()
    return saying_of_line(lines, number)


def told_lines(system, rounds):
    """The lines of what all states are told, round by round, and a dict from the states to the last ones' numbers."""
    teller = Teller(system, system.states(), steps_of(system))
    for _ in range(rounds):
        if not teller.go_round():
            break
    return teller.lines, teller.told


def parting(system, other, x, y, grade):
    """The told saying of the least depth that parts x from y by a grade, None if the grade is within the nearness."""
    rounds = round_below(system, other, x, y, grade)
    return None if rounds is None else told_saying(system, x, rounds)


def parting_lines(system, other, x, y, grade):
    """The lines that tell this saying, and the number of its own one."""
    rounds = round_below(system, other, x, y, grade)
    if rounds is None:
        return None
    lines, numbers = told_lines(system, rounds)
    return lines, numbers[x]


def _check_asked(system, other, x, y, grade):
    """Raise MixedScales, MixedKinds, UnknownState or UnknownGrade unless something is asked of a pair."""
    check_like(system, other)
    check_pair(system, other, x, y)
    if grade not in system.scale:
        raise UnknownGrade(grade)


def _is_parting(scale, grade, first, second):
    """Whether what has these worths at two states parts them by a grade."""
    return first == scale.nearest and not within(scale, grade, second)


def judge_saying(system, other, x, y, grade, saying):
    """Whether any value is a saying about states that parts x from y by a grade."""
    _check_asked(system, other, x, y, grade)
    try:
        check_saying(system.kind, system.scale, saying)
    except BadSaying:
        return False
    return _parts(system, other, x, y, grade, saying)


def _parts(system, other, x, y, grade, saying):
    return _is_parting(system.scale, grade, worth_at(system, x, saying), worth_at(other, y, saying))


def judge_lines(system, other, x, y, grade, lines, number):
    """Whether any values are lines and the number of one whose saying parts x from y by a grade."""
    _check_asked(system, other, x, y, grade)
    try:
        first, second = worths_of_line([system, other], lines, number)
    except (BadSaying, NoState):
        return False
    return _is_parting(system.scale, grade, first[x], second[y])


def thinned_saying(system, other, x, y, grade, saying):
    """What is left of a saying that parts x from y when its parts give way as long as it parts them yet."""
    _check_asked(system, other, x, y, grade)
    # The worths raise BadSaying for what is no saying.
    if not _parts(system, other, x, y, grade, saying):
        raise BadSaying(())
    return trimmed(system, other, x, y, grade, saying)
