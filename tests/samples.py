"""What several test files use: scales, any values, and a check of errors."""

import itertools

from neargrades.scales import CostScale, LevelScale, PairScale, SetScale, StopScale, TableScale

PACKAGE = "neargrades"


def one_grade(name="only"):
    return TableScale([name], [[name]], [[name]], none=name, nearest=name)


def table_of(scale):
    """The arguments from which TableScale makes an equal scale."""
    grades = scale.grades()
    joins = [[scale.join(a, b) for b in grades] for a in grades]
    products = [[scale.then(a, b) for b in grades] for a in grades]
    return grades, joins, products, scale.none, scale.nearest


def diamond():
    """Four grades, two of which are not comparable; the product is the meet."""
    return SetScale(["p", "q"])


def lawful_scales():
    return [
        one_grade(), CostScale(0), CostScale(1), CostScale(3), CostScale(6), StopScale(0), StopScale(2), StopScale(6),
        LevelScale(1), LevelScale(4), LevelScale(7), SetScale(["a"]), SetScale(["b", "a"]), SetScale(["a", "b", "c"]),
        PairScale(CostScale(1), LevelScale(2)), PairScale(one_grade("x"), CostScale(2)),
        PairScale(StopScale(1), SetScale(["u", "v"])),
    ]


def small_scales():
    return [scale for scale in lawful_scales() if len(scale) <= 6]


def any_values():
    """New values of all sorts, none of which is a grade, a name or a state of the samples."""
    return [
        None, True, False, 0, 1, -1, 3, 10 ** 30, "", " ", "zz", "A", "none ", "\n", "abcdefghijklm",
        (), ("0",), (("0", "0"),), (1, (2,)), [], ["0"], [["0"]], [None], {}, {"0": "0"}, {("a", "b"): []},
        ({}, []), [{}, ()],
    ]


def caught(call, *arguments, **more):
    """The error that a call raises, None if it raises none."""
    try:
        call(*arguments, **more)
    except Exception as error:
        return error
    return None


def alike(value, other):
    """Equal, and of the same types all through: True is not 1, a list no tuple."""
    if type(value) is not type(other):
        return False
    if isinstance(value, (list, tuple)):
        return len(value) == len(other) and all(map(alike, value, other))
    if isinstance(value, dict):
        return alike(list(value.items()), list(other.items()))
    return value == other


class Checks:
    """Added to a TestCase."""

    def check_raises(self, error, call, *arguments, **attributes):
        """The call raises just this class of errors, with just these attributes."""
        told = caught(call, *arguments)
        shown = f"{getattr(call, '__name__', call)}{arguments!r}: {told!r}"
        self.assertIs(type(told), error, shown)
        self.assertTrue(alike(dict(sorted(vars(told).items())), dict(sorted(attributes.items()))),
                        f"{shown} {vars(told)!r} is not {attributes!r}")

    def check_alike(self, value, other):
        self.assertTrue(alike(value, other), f"{value!r} is not {other!r}")


def mutables(value):
    """All lists and dicts within a value."""
    if isinstance(value, (list, tuple)):
        inner = [found for part in value for found in mutables(part)]
    elif isinstance(value, dict):
        inner = [found for part in value.values() for found in mutables(part)]
    else:
        return []
    return inner if isinstance(value, tuple) else [value] + inner


def share_nothing(*values):
    """Whether no list or dict stands at two places of the values."""
    found = [id(part) for value in values for part in mutables(value)]
    return len(found) == len(set(found))


def spoil(value):
    """Change each list and dict within a value."""
    for part in mutables(value):
        if isinstance(part, list):
            part.append("spoilt")
        else:
            part[("spoilt", "spoilt")] = "spoilt"


def tuples(row, count):
    return list(itertools.product(row, repeat=count))
