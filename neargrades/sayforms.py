"""The forms of sayings, and of lines, which have numbers of lines in the place of parts.

A place of a saying is STATES, or the number of the stone of a plan whose values it is about.
"""

from neargrades.words import is_number

STATES = "states"
# How many parts each form has that is made of parts alone; "rows" has one for each letter.
PARTS = {"and": 2, "or": 2, "step": 1, "now": 1, "halves": 2, "left": 1, "right": 1, "some": 1, "all": 1}
EVERYWHERE = ("and", "or", "by", "if")
# Behind the word stands a grade.
GRADED = ("by", "if")
# The words that may stand where a saying is about values of a kind, by the kind's word.
WORDS = {
    "names": ("like",), "next": ("now",), "both": ("halves",), "along": ("halves",), "either": ("left", "right"),
    "row": ("rows",), "forth": ("some",), "back": ("all",), "kept": ("some", "all"),
}


def has_form(scale, saying):
    """Whether any value has a form of sayings, whatever its parts are and wherever it stands."""
    if not isinstance(saying, tuple):
        return saying in scale
    if not saying or not isinstance(saying[0], str):
        return False
    word = saying[0]
    if word == "rows":
        return len(saying) > 1
    if word == "like":
        return len(saying) == 2 and isinstance(saying[1], str)
    if word in GRADED:
        return len(saying) == 3 and saying[1] in scale
    return word in PARTS and len(saying) == 1 + PARTS[word]


def is_line(scale, line, number):
    """Whether any value may be the line with this number."""
    if not has_form(scale, line):
        return False
    return all([is_number(part) and 0 <= part < number for part in inner_parts(line)])


def inner_parts(saying):
    """The list of the parts of what has a form."""
    if not isinstance(saying, tuple) or saying[0] == "like":
        return []
    return list(saying[2:] if saying[0] in GRADED else saying[1:])


def with_parts(saying, parts):
    """What has a form, with other parts."""
    if not inner_parts(saying):
        return saying
    return (*saying[:len(saying) - len(parts)], *parts)


def may_stand(plan, place, saying):
    """Whether what has a form may stand at a place."""
    if not isinstance(saying, tuple) or saying[0] in EVERYWHERE:
        return True
    word = saying[0]
    if place == STATES:
        return word == "step"
    kind = plan.kinds[place]
    if word not in WORDS[kind[0]]:
        return False
    if word == "like":
        return saying[1] in kind[1]
    return word != "rows" or len(saying) == 1 + len(kind[1])


def part_places(plan, place, saying):
    """The list of the places of the parts of what may stand at a place."""
    parts = inner_parts(saying)
    if not parts or saying[0] in EVERYWHERE:
        return [place] * len(parts)
    word = saying[0]
    if word == "step":
        return [0]
    if word == "now":
        return [STATES]
    stones = plan.parts[place]
    if word == "halves":
        return list(stones)
    return [stones[1] if word == "right" else stones[0]] * len(parts)


def same_places(place, saying):
    """For each part of what has a form the same place: for those who do not ask for places."""
    return [place] * len(inner_parts(saying))


def gathered(saying, place, places_of, make):
    """What make(part, place, made) tells of a saying, made being the list of what it tells of the part's parts.

    Sayings may stand deep in one another: so one goes through them by a list of what waits.
    """
    done = []
    waiting = [(saying, place, False)]
    while waiting:
        part, where, is_begun = waiting.pop()
        parts = inner_parts(part)
        if is_begun:
            first = len(done) - len(parts)
            done = [*done[:first], make(part, where, done[first:])]
        else:
            places = places_of(where, part)
            # The last one of the list is the next one: first the parts, in order, then this one again.
            waiting.append((part, where, True))
            waiting.extend([(parts[k], places[k], False) for k in range(len(parts))][::-1])
    return done[0]
