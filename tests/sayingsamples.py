"""Random sayings, and their forms, worths and lines by the words of the document."""

from tests.nearsamples import join, meet, only

STATES = "states"


def inner(kind, place, saying):
    """The list of the (place, part) of the parts of a right saying at a place: STATES or a kind."""
    if isinstance(saying, str) or saying[0] == "like":
        return []
    word = saying[0]
    if word in ("and", "or"):
        return [(place, saying[1]), (place, saying[2])]
    if word in ("by", "if"):
        return [(place, saying[2])]
    if word == "step":
        return [(kind, saying[1])]
    if word == "now":
        return [(STATES, saying[1])]
    if word == "halves":
        return [(place[1], saying[1]), (place[2], saying[2])]
    if word in ("left", "right"):
        return [(place[1 if word == "left" else 2], saying[1])]
    if word == "rows":
        return [(place[2], part) for part in saying[1:]]
    return [(place[1], saying[1])]


def all_parts(kind, saying, place=STATES, path=()):
    """The list of the (path, place, part), each ahead of its parts."""
    told = [(path, place, saying)]
    for k, (where, part) in enumerate(inner(kind, place, saying)):
        told += all_parts(kind, part, where, path + (k,))
    return told


def random_saying(kind, scale, chance, size, place=STATES):
    grade = chance.choice(scale.grades())
    if size <= 0 or chance.random() < 0.1:
        return grade
    if chance.random() < 0.35:
        word = chance.choice(["and", "or", "by", "if"])
        parts = [random_saying(kind, scale, chance, size - 1, place) for _ in range(2)]
        return (word, *parts) if word in ("and", "or") else (word, grade, parts[0])
    if place == STATES:
        return ("step", random_saying(kind, scale, chance, size - 1, kind))
    word = place[0]
    if word == "names":
        return ("like", chance.choice(place[1].names()))
    if word == "next":
        return ("now", random_saying(kind, scale, chance, size - 1))
    if word in ("both", "along"):
        return ("halves", *[random_saying(kind, scale, chance, size - 1, part) for part in place[1:]])
    if word == "either":
        side = chance.choice(["left", "right"])
        return (side, random_saying(kind, scale, chance, size - 1, place[1 if side == "left" else 2]))
    if word == "row":
        return ("rows", *[random_saying(kind, scale, chance, size - 1, place[2]) for _ in place[1]])
    words = {"forth": ["some"], "back": ["all"], "kept": ["some", "all"]}[word]
    return (chance.choice(words), random_saying(kind, scale, chance, size - 1, place[1]))


def worth(system, saying, place, value):
    """The worth of a saying at a state, or of one about values of a kind at a value, by the words of S7.2."""
    scale = system.scale
    if isinstance(saying, str):
        return saying
    word = saying[0]
    if word == "like":
        return place[1].near(saying[1], value)
    parts = inner(system.kind, place, saying)
    if word in ("and", "or"):
        both = [worth(system, part, where, value) for where, part in parts]
        return meet(scale, both) if word == "and" else scale.join(*both)
    if word in ("by", "if"):
        told = worth(system, saying[2], place, value)
        return scale.then(saying[1], told) if word == "by" else only(scale, saying[1], told)
    if word == "step":
        return worth(system, saying[1], system.kind, system.step(value))
    if word == "now":
        return worth(system, saying[1], STATES, value)
    if word in ("left", "right"):
        return worth(system, saying[1], parts[0][0], value[1]) if value[0] == word else scale.none
    if word in ("halves", "rows"):
        told = [worth(system, part, where, half) for (where, part), half in zip(parts, value)]
        return scale.then(*told) if place[0] == "along" else meet(scale, told)
    where, part = parts[0]
    told = [(grade, worth(system, part, where, member)) for member, grade in value]
    if word == "some":
        return join(scale, [scale.then(grade, one) for grade, one in told])
    return meet(scale, [only(scale, grade, one) for grade, one in told])


def lines(saying):
    """The lines of a saying by the words of S7.5."""
    told = []

    def number(part):
        if isinstance(part, str) or part[0] == "like":
            line = part
        elif part[0] in ("by", "if"):
            line = (part[0], part[1], number(part[2]))
        else:
            line = (part[0], *[number(one) for one in part[1:]])
        if line not in told:
            told.append(line)
        return told.index(line)
    number(saying)
    return told


def steps_in(saying):
    """The depth by the words of S7.2."""
    if isinstance(saying, str):
        return 0
    return (saying[0] == "step") + max([0] + [steps_in(part) for part in saying[1:] if isinstance(part, tuple)])


def forms(scale, place):
    """For each word that may stand at a place: how many items stand behind it (None: see the letters)."""
    told = {"and": 2, "or": 2, "by": 2, "if": 2}
    if place == STATES:
        return {**told, "step": 1}
    return {**told, **{
        "names": {"like": 1}, "next": {"now": 1}, "both": {"halves": 2}, "along": {"halves": 2},
        "either": {"left": 1, "right": 1}, "row": {"rows": None}, "forth": {"some": 1}, "back": {"all": 1},
        "kept": {"some": 1, "all": 1},
    }[place[0]]}


def first_bad(kind, scale, saying, place=STATES, path=()):
    """The path of the first part of any value that has no form of its place, None if there is none."""
    if isinstance(saying, str):
        return None if saying in scale.grades() else path
    if type(saying) is not tuple or len(saying) == 0 or type(saying[0]) is not str:
        return path
    word, *rest = saying
    known = forms(scale, place)
    if word not in known:
        return path
    count = len(place[1]) if known[word] is None else known[word]
    if len(rest) != count:
        return path
    if word in ("by", "if") and (type(rest[0]) is not str or rest[0] not in scale.grades()):
        return path
    if word == "like" and (type(rest[0]) is not str or rest[0] not in place[1].names()):
        return path
    for k, (where, part) in enumerate(inner(kind, place, saying)):
        found = first_bad(kind, scale, part, where, path + (k,))
        if found is not None:
            return found
    return None


def exchanged(saying, path, part):
    """The saying with another part at a path."""
    if not path:
        return part
    first = len(saying) - len(inner_numbers(saying)) + path[0]
    return saying[:first] + (exchanged(saying[first], path[1:], part),) + saying[first + 1:]


def inner_numbers(saying):
    """The parts of a right saying, or the numbers in a line."""
    if isinstance(saying, str) or saying[0] == "like":
        return ()
    return saying[2:] if saying[0] in ("by", "if") else saying[1:]
