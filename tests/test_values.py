import random
import unittest

from neargrades.errors import BadValue, UnknownGrade, UnknownName, UnknownState
from neargrades.scales import CostScale, LevelScale, SetScale
from neargrades.values import is_ahead, is_value, led_value, parts_in, states_in, value_of
from tests.kindsamples import compared, empty, hues, kinds, random_data, scales, told
from tests.samples import Checks, any_values, caught, mutables, one_grade, spoil, tuples

COST = CostScale(3)
NAMES = ("names", hues(COST))
NEXT = ("next",)
STATES = ["t", "s", "u"]
ODD_STATES = ["l.b", "", "A b", "a"]


def first_wrong(kind, scale, states, data, path=()):
    """The error that data bring about, as (class, attributes), None if there is none."""
    word = kind[0]
    if word in ("names", "next"):
        known = kind[1].names() if word == "names" else states
        if not isinstance(data, str):
            return (BadValue, {"path": path})
        error = UnknownName if word == "names" else UnknownState
        return None if data in known else (error, {"name": data})
    if word in ("forth", "back", "kept"):
        return wrong_in_set(kind, scale, states, data, path)
    parts = list(kind[1:]) if word in ("both", "along") else [kind[2]] * len(kind[1]) if word == "row" else None
    if word == "either":
        if not isinstance(data, tuple) or len(data) != 2 or data[0] not in ("left", "right"):
            return (BadValue, {"path": path})
        return first_wrong(kind[1 if data[0] == "left" else 2], scale, states, data[1], path + (0,))
    if not isinstance(data, tuple) or len(data) != len(parts):
        return (BadValue, {"path": path})
    found = [first_wrong(parts[k], scale, states, data[k], path + (k,)) for k in range(len(parts))]
    return next((error for error in found if error), None)


def wrong_in_set(kind, scale, states, data, path):
    if not isinstance(data, (list, tuple)):
        return (BadValue, {"path": path})
    for k, entry in enumerate(data):
        if not isinstance(entry, tuple) or len(entry) != 2:
            return (BadValue, {"path": path + (k,)})
        error = first_wrong(kind[1], scale, states, entry[0], path + (k,))
        if error:
            return error
        if not isinstance(entry[1], str) or entry[1] not in scale.grades():
            return (UnknownGrade, {"name": entry[1]})
    return None


def places(data, place=()):
    """All places within lists and tuples, each ahead of those in it."""
    found = [place]
    if isinstance(data, (list, tuple)):
        for k, part in enumerate(data):
            found += places(part, place + (k,))
    return found


def exchanged(data, place, value):
    """The data with another value at a place."""
    if not place:
        return value
    row = list(data)
    row[place[0]] = exchanged(row[place[0]], place[1:], value)
    return row if isinstance(data, list) else tuple(row)


class ValueOfTest(Checks, unittest.TestCase):

    def each(self, count):
        chance = random.Random(21)
        for scale in scales():
            for kind in kinds(scale):
                for states in (STATES, ODD_STATES):
                    for _ in range(count):
                        yield kind, scale, states, random_data(kind, scale, states, chance), chance

    def test_by_its_words(self):
        for kind, scale, states, data, _ in self.each(12):
            shown = repr(data)
            value = value_of(kind, scale, states, data)
            self.check_alike(value, told(kind, scale, states, data))
            self.assertEqual(repr(data), shown)
            self.assertEqual(mutables(value), [])
            self.check_alike(value_of(kind, scale, tuple(states), value), value)

    def test_examples(self):
        kind = ("forth", ("both", NAMES, NEXT))
        data = [(("blue", "t"), "2"), (("red", "s"), "3"), (("amber", "t"), "none"), (("red", "t"), "0"),
                (("blue", "t"), "1"), (("red", "s"), "none")]
        self.check_alike(value_of(kind, COST, STATES, data),
                         ((("red", "t"), "0"), (("red", "s"), "3"), (("blue", "t"), "1")))
        self.check_alike(value_of(kind, COST, STATES, []), ())
        self.check_alike(value_of(kind, COST, [], ()), ())

    def test_sets_in_one_another(self):
        kind = ("kept", ("forth", NEXT))
        data = [([("s", "1"), ("t", "2")], "3"), ((("t", "2"), ("s", "1"), ("u", "none")), "1"), ([], "2"),
                ([("t", "2")], "0"), ([("t", "3")], "0"), ([("u", "none")], "1")]
        self.check_alike(value_of(kind, COST, STATES, data), (
            ((), "1"), ((("t", "2"),), "0"), ((("t", "2"), ("s", "1")), "1"), ((("t", "3"),), "0")))

    def test_joins_that_are_none_are_left_out(self):
        self.check_alike(value_of(("forth", NEXT), LevelScale(2), STATES, [("t", "0"), ("t", "0"), ("s", "1")]),
                         (("s", "1"),))
        self.check_alike(value_of(("forth", NEXT), one_grade(), STATES, [("t", "only"), ("t", "only")]), ())

    def test_grades_of_one_value_are_joined(self):
        scale = SetScale(["a", "b"])
        self.check_alike(value_of(("back", NEXT), scale, STATES, [("t", "a"), ("s", "a"), ("t", "0"), ("t", "b")]),
                         (("t", "ab"), ("s", "a")))

    def test_no_names_and_no_states(self):
        nothing = ("names", empty(COST))
        self.check_raises(UnknownName, value_of, nothing, COST, STATES, "red", name="red")
        self.check_raises(UnknownState, value_of, NEXT, COST, [], "t", name="t")
        self.check_alike(value_of(("both", ("forth", nothing), ("kept", NEXT)), COST, [], ([], ())), ((), ()))

    def test_any_value_at_any_place(self):
        for kind, scale, states, data, chance in self.each(2):
            for place in chance.sample(places(data), min(6, len(places(data)))):
                for value in any_values() + ["left", "right", ("left", "red"), "none", "red", "t"]:
                    changed = exchanged(data, place, value)
                    wrong = first_wrong(kind, scale, states, changed)
                    if wrong is None:
                        value_of(kind, scale, states, changed)
                        continue
                    self.check_raises(wrong[0], value_of, kind, scale, states, changed, **wrong[1])

    def test_several_wrong_things(self):
        kinds_met = set()
        for kind, scale, states, data, chance in self.each(6):
            for _ in range(3):
                data = exchanged(data, chance.choice(places(data)), chance.choice(any_values()))
            wrong = first_wrong(kind, scale, states, data)
            if wrong:
                kinds_met.add(wrong[0])
                self.check_raises(wrong[0], value_of, kind, scale, states, data, **wrong[1])
        self.assertEqual(kinds_met, {BadValue, UnknownName, UnknownState, UnknownGrade})

    def test_the_first_wrong_thing(self):
        kind = ("both", ("forth", NAMES), NEXT)
        bad = self.check_raises
        bad(BadValue, value_of, kind, COST, STATES, [[], "t"], path=())
        bad(BadValue, value_of, kind, COST, STATES, (None, 3), path=(0,))
        bad(BadValue, value_of, kind, COST, STATES, ([("red", "0"), ["red", "0"]], 3), path=(0, 1))
        bad(BadValue, value_of, kind, COST, STATES, ([("red", "0"), ("red", "0", "0")], 3), path=(0, 1))
        bad(BadValue, value_of, kind, COST, STATES, ([(4, "bad")], 3), path=(0, 0))
        bad(UnknownName, value_of, kind, COST, STATES, ([("pink", "bad")], 3), name="pink")
        bad(UnknownGrade, value_of, kind, COST, STATES, ([("red", "bad"), None], 3), name="bad")
        bad(UnknownGrade, value_of, kind, COST, STATES, ([("red", [1]), None], 3), name=[1])
        bad(BadValue, value_of, kind, COST, STATES, ([("red", "none"), ("red", "0"), None], "t"), path=(0, 2))
        bad(BadValue, value_of, kind, COST, STATES, ([], 3), path=(1,))
        bad(UnknownState, value_of, kind, COST, STATES, ([], "red"), name="red")

    def test_wrong_things_in_entries_that_would_be_left_out(self):
        self.check_raises(UnknownState, value_of, ("forth", NEXT), COST, STATES, [("x", "none")], name="x")
        self.check_raises(BadValue, value_of, ("forth", ("both", NEXT, NEXT)), COST, STATES, [(("t",), "none")],
                          path=(0,))

    def test_paths_of_sides_and_rows(self):
        kind = ("row", ("a", "b"), ("either", NEXT, ("forth", NEXT)))
        self.check_raises(BadValue, value_of, kind, COST, STATES, (("left", "t"), ("right", [("t", "0"), ("s",)])),
                          path=(1, 0, 1))
        self.check_raises(BadValue, value_of, kind, COST, STATES, (("left", None), ("up", "t")), path=(0, 0))
        self.check_raises(BadValue, value_of, kind, COST, STATES, (("left", "t"), ("up", "t")), path=(1,))
        self.check_raises(BadValue, value_of, kind, COST, STATES, (("left", "t"), ("right",)), path=(1,))
        self.check_raises(BadValue, value_of, kind, COST, STATES, (("left", "t"), ["left", "t"]), path=(1,))
        self.check_raises(BadValue, value_of, kind, COST, STATES, (("left", "t"),), path=())

    def test_errors_and_values_keep_nothing(self):
        inner = [("t", "1")]
        data = [(inner, "1")]
        value = value_of(("forth", ("back", NEXT)), COST, STATES, data)
        spoil(data)
        self.check_alike(value, (((("t", "1"),), "1"),))
        grade = ["x"]
        error = caught(value_of, ("forth", NEXT), COST, STATES, [("t", grade)])
        grade.append("y")
        self.assertEqual(error.name, ["x"])


class IsValueTest(Checks, unittest.TestCase):

    def test_values_and_data(self):
        chance = random.Random(22)
        answers = set()
        for scale in scales():
            for kind in kinds(scale):
                for _ in range(15):
                    data = random_data(kind, scale, STATES, chance)
                    value = told(kind, scale, STATES, data)
                    self.assertIs(is_value(kind, scale, STATES, value), True)
                    wanted = not mutables(data) and data == value
                    answers.add(wanted)
                    self.assertIs(is_value(kind, scale, STATES, data), wanted)
                    for place in chance.sample(places(value), min(4, len(places(value)))):
                        for other in any_values():
                            changed = exchanged(value, place, other)
                            wanted = (first_wrong(kind, scale, STATES, changed) is None and not mutables(changed)
                                      and told(kind, scale, STATES, changed) == changed)
                            self.assertIs(is_value(kind, scale, STATES, changed), wanted)
        self.assertEqual(answers, {True, False})

    def test_forms_of_sets(self):
        kind = ("forth", NEXT)
        right = (("t", "1"), ("s", "0"))
        self.assertIs(is_value(kind, COST, STATES, right), True)
        self.assertIs(is_value(kind, COST, STATES, ()), True)
        for value in (list(right), right[::-1], right + right[:1], right + (("u", "none"),), (["t", "1"],), [],
                      (("t", "1"), ("t", "2")), (("t", "1"), ("t", "1")), (("t", "1", "2"),), (("t", "4"),), "ts", {},
                      (("x", "1"),), None, (("t", None),), (("t", ["1"]),)):
            self.assertIs(is_value(kind, COST, STATES, value), False, value)

    def test_any_value(self):
        for scale in scales():
            for kind in kinds(scale):
                for value in any_values():
                    wanted = value == () and isinstance(value, tuple) and kind[0] in ("forth", "back", "kept")
                    self.assertIs(is_value(kind, scale, STATES, value), wanted)


class OrderTest(unittest.TestCase):

    def test_by_its_words(self):
        chance = random.Random(23)
        met = set()
        for scale in scales():
            for kind in kinds(scale):
                values = [told(kind, scale, STATES, random_data(kind, scale, STATES, chance, 2)) for _ in range(9)]
                for value, other in tuples(values, 2):
                    wanted = compared(kind, scale, STATES, value, other)
                    met.add(wanted)
                    self.assertIs(is_ahead(kind, scale, STATES, value, other), wanted < 0)
        self.assertEqual(met, {-1, 0, 1})

    def ahead(self, kind, *values):
        for i, value in enumerate(values):
            for j, other in enumerate(values):
                self.assertIs(is_ahead(kind, COST, STATES, value, other), i < j)

    def test_examples(self):
        self.ahead(NAMES, "red", "blue", "amber")
        self.ahead(NEXT, "t", "s", "u")
        self.ahead(("both", NEXT, NAMES), ("t", "red"), ("t", "amber"), ("s", "red"))
        self.ahead(("either", NEXT, NAMES), ("left", "t"), ("left", "u"), ("right", "red"), ("right", "blue"))
        self.ahead(("row", ("b", "a"), NEXT), ("t", "u"), ("s", "t"), ("s", "s"))
        self.ahead(("forth", NEXT), (), (("t", "0"),), (("t", "0"), ("s", "3")), (("t", "0"), ("u", "0")),
                   (("t", "1"),), (("s", "0"), ("u", "0")), (("u", "0"),))


class InsideTest(Checks, unittest.TestCase):

    def test_states_in(self):
        kind = ("both", ("forth", ("both", NEXT, NEXT)), ("row", ("a", "b"), ("either", NAMES, NEXT)))
        value = (((("s", "u"), "1"), (("u", "s"), "0")), (("right", "t"), ("left", "red")))
        self.check_alike(states_in(kind, value), ["s", "u", "t"])
        self.check_alike(states_in(NAMES, "red"), [])
        self.check_alike(states_in(NEXT, "t"), ["t"])
        self.check_alike(states_in(("forth", NEXT), ()), [])
        self.check_alike(states_in(("along", NEXT, NEXT), ("t", "t")), ["t"])
        self.check_alike(states_in(("both", ("names", hues(COST)), NEXT), ("red", "red")), ["red"])

    def strings(self, kind, value):
        """All states in a value, in order, and the number of its parts."""
        word = kind[0]
        if word in ("names", "next"):
            return ([value] if word == "next" else []), 1
        inner = {"both": lambda: list(zip(kind[1:], value)), "along": lambda: list(zip(kind[1:], value)),
                 "either": lambda: [(kind[1 if value[0] == "left" else 2], value[1])],
                 "row": lambda: [(kind[2], part) for part in value]}.get(
                     word, lambda: [(kind[1], part) for part, _ in value])()
        found = [self.strings(part, some) for part, some in inner]
        return [state for row, _ in found for state in row], 1 + sum(count for _, count in found)

    def test_by_all_parts(self):
        chance = random.Random(24)
        for scale in scales():
            for kind in kinds(scale):
                for _ in range(10):
                    value = told(kind, scale, STATES, random_data(kind, scale, STATES, chance))
                    states, count = self.strings(kind, value)
                    self.check_alike(states_in(kind, value), list(dict.fromkeys(states)))
                    self.check_alike(parts_in(kind, value), count)

    def test_parts_in(self):
        self.assertEqual(parts_in(NAMES, "red"), 1)
        self.assertEqual(parts_in(NEXT, "t"), 1)
        self.assertEqual(parts_in(("forth", NEXT), ()), 1)
        self.assertEqual(parts_in(("forth", NEXT), (("t", "0"), ("s", "0"))), 3)
        self.assertEqual(parts_in(("both", NEXT, ("either", NEXT, NAMES)), ("t", ("right", "red"))), 4)
        self.assertEqual(parts_in(("row", ("a", "b", "c"), NEXT), ("t", "t", "t")), 4)


class LedValueTest(Checks, unittest.TestCase):

    def led(self, kind, value, images):
        word = kind[0]
        if word in ("names", "next"):
            return images[value] if word == "next" else value
        if word in ("both", "along"):
            return tuple(self.led(part, inner, images) for part, inner in zip(kind[1:], value))
        if word == "either":
            return (value[0], self.led(kind[1 if value[0] == "left" else 2], value[1], images))
        if word == "row":
            return tuple(self.led(kind[2], inner, images) for inner in value)
        return tuple((self.led(kind[1], inner, images), grade) for inner, grade in value)

    def test_by_its_words(self):
        chance = random.Random(25)
        for scale in scales():
            for kind in kinds(scale):
                for _ in range(10):
                    value = told(kind, scale, STATES, random_data(kind, scale, STATES, chance))
                    images = {state: chance.choice(ODD_STATES) for state in STATES}
                    elder = dict(images)
                    self.check_alike(led_value(kind, scale, ODD_STATES, value, images),
                                     told(kind, scale, ODD_STATES, self.led(kind, value, images)))
                    self.assertEqual(images, elder)

    def test_examples(self):
        kind = ("forth", NEXT)
        value = (("t", "2"), ("s", "1"), ("u", "3"))
        self.check_alike(led_value(kind, COST, ["x", "y"], value, {"t": "y", "s": "y", "u": "x"}),
                         (("x", "3"), ("y", "1")))
        self.check_alike(led_value(NAMES, COST, [], "red", {}), "red")
        self.check_alike(led_value(kind, COST, ("x",), (), {"t": "nowhere"}), ())

    def test_errors(self):
        kind = ("row", ("a", "b"), NEXT)
        led = [kind, COST, ["x", "y"]]
        self.check_raises(UnknownState, led_value, *led, ("t", "s"), {"s": "x"}, name="t")
        self.check_raises(UnknownState, led_value, *led, ("t", "s"), {"t": "z"}, name="s")
        self.check_raises(UnknownState, led_value, *led, ("t", "s"), {}, name="t")
        self.check_raises(UnknownState, led_value, *led, ("t", "s"), {"s": "z", "t": "w"}, name="w")
        self.check_raises(UnknownState, led_value, *led, ("t", "s"), {"s": "z", "t": "x"}, name="z")
        # What is not in the value is not asked for.
        self.check_alike(led_value(*led, ("t", "t"), {"t": "x", "u": "nowhere"}), ("x", "x"))


if __name__ == "__main__":
    unittest.main()
