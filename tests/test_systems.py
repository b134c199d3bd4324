import random
import unittest

from neargrades.errors import (
    BadKind, BadName, BadValue, MixedKinds, MixedScales, NoStep, OpenState, TwiceTold, UnknownGrade, UnknownName,
    UnknownState,
)
from neargrades.scales import CostScale, LevelScale, StopScale, TableScale
from neargrades.systems import (
    System, both_side, made_system, part_from, reached_from, summed, with_step, without_state,
)
from neargrades.values import led_value, states_in
from tests.kindsamples import hues, kinds, random_data, scales, told
from tests.samples import Checks, any_values, mutables, share_nothing, spoil, table_of

COST = CostScale(3)
NAMES = ("names", hues(COST))
NEXT = ("next",)
SET = ("forth", NEXT)
BAD_WORDS = ["", "A", "0a", "abcdefghijklm", "a b", "l.a", "a,b", "\u00e9"]


def sample():
    return System(COST, SET, ["c", "a", "d", "b"], {
        "a": [("b", "1"), ("b", "0"), ("c", "2")], "b": [], "d": (("d", "1"),), "c": [("a", "none"), ("b", "3")]})


def random_system(kind, scale, states, chance):
    return made_system(scale, kind, states, {x: random_data(kind, scale, states, chance) for x in states})


class SystemTest(Checks, unittest.TestCase):

    def test_example(self):
        system = sample()
        self.assertTrue(system.scale == COST)
        self.check_alike(system.kind, SET)
        self.check_alike(system.states(), ["c", "a", "d", "b"])
        self.check_alike([system.step(x) for x in "cadb"],
                         [(("b", "3"),), (("c", "2"), ("b", "0")), (("d", "1"),), ()])
        self.assertEqual(len(system), 4)

    def test_steps_by_their_words(self):
        chance = random.Random(41)
        for scale in scales():
            for kind in kinds(scale):
                for states in (["b"], ["c", "a", "b"]):
                    data = {x: random_data(kind, scale, states, chance) for x in reversed(states)}
                    shown = repr(data)
                    for make in (System, made_system):
                        system = make(scale, kind, states, data)
                        self.assertIs(type(system), System)
                        for x in states:
                            self.check_alike(system.step(x), told(kind, scale, states, data[x]))
                            self.assertEqual(mutables(system.step(x)), [])
                    self.assertEqual(repr(data), shown)

    def test_no_states(self):
        for make in (System, made_system):
            system = make(COST, NEXT, [], {})
            self.assertEqual((system.states(), len(system)), ([], 0))
            self.assertTrue(system == System(COST, NEXT, (), {}))
            self.check_raises(UnknownState, system.step, "a", name="a")

    def test_in_and_unknown_states(self):
        system = sample()
        for x in "abcd":
            self.assertIs(x in system, True)
        for value in any_values() + ["e", "ca"]:
            self.assertIs(value in system, False)
            self.check_raises(UnknownState, system.step, value, name=value)

    def test_bad_kinds_first(self):
        for make in (System, made_system):
            self.check_raises(BadKind, make, COST, None, ["A", "A"], {}, path=())
            self.check_raises(BadKind, make, COST, ("both", NEXT, ("row", (), NEXT)), ["A", 3], {"x": 1}, path=(1,))
            self.check_raises(BadKind, make, LevelScale(1), ("kept", NAMES), [], {}, path=(0,))
            self.check_raises(BadKind, make, COST, ["next"], [], {}, path=())

    def test_bad_names(self):
        for name in BAD_WORDS + [value for value in any_values() if value != "zz"]:
            self.check_raises(BadName, System, COST, NEXT, ["a", "a", name, "B"], {"x": None}, name=name)
        for word in ("abcdefghijkl", "a0", "z"):
            self.assertEqual(System(COST, NEXT, [word], {word: word}).states(), [word])

    def test_twice_told(self):
        for make in (System, made_system):
            self.check_raises(TwiceTold, make, COST, NEXT, ["a", "b", "b", "a"], {"x": None}, name="b")
            self.check_raises(TwiceTold, make, COST, NEXT, ("a", "b", "a", "b"), {}, name="a")

    def test_keys_that_are_no_states(self):
        for make in (System, made_system):
            self.check_raises(UnknownState, make, COST, NEXT, ["b"], {"z": None, "c": None, "d": None}, name="c")
            self.check_raises(UnknownState, make, COST, NEXT, ["b"], {"c": None, "a": None, "b": None}, name="a")
            self.check_raises(UnknownState, make, COST, NEXT, [], {"": "x"}, name="")

    def test_states_without_steps(self):
        for make in (System, made_system):
            self.check_raises(NoStep, make, COST, NEXT, ["c", "a", "b"], {"c": None}, name="a")
            self.check_raises(NoStep, make, COST, NEXT, ["b", "a"], {}, name="b")

    def test_errors_of_values_in_the_order_of_states(self):
        for make in (System, made_system):
            self.check_raises(UnknownState, make, COST, NEXT, ["b", "a"], {"a": 3, "b": "x"}, name="x")
            self.check_raises(BadValue, make, COST, NEXT, ["b", "a"], {"a": 3, "b": "b"}, path=())
            self.check_raises(BadValue, make, COST, SET, ["b", "a"], {"a": [3], "b": []}, path=(0,))
            self.check_raises(UnknownGrade, make, COST, SET, ["a"], {"a": [("a", "4")]}, name="4")
            self.check_raises(UnknownName, make, COST, NAMES, ["red"], {"red": "pink"}, name="pink")
            for value in any_values():
                self.check_raises(UnknownState if isinstance(value, str) else BadValue, make, COST, NEXT, ["a"],
                                  {"a": value}, **({"name": value} if isinstance(value, str) else {"path": ()}))

    def test_made_of_any_strings(self):
        states = ["l.a", "", "A b", "\u00e9", "abcdefghijklmnop", "a,b"]
        system = made_system(COST, SET, states, {x: [(y, "1") for y in reversed(states)] for x in states})
        self.check_alike(system.states(), states)
        self.check_alike(system.step(""), tuple((y, "1") for y in states))
        self.assertIs("A b" in system, True)
        self.assertEqual(len(system), 6)

    def test_made_of_what_are_no_strings(self):
        for name in any_values():
            if not isinstance(name, str):
                self.check_raises(BadName, made_system, COST, NEXT, ["a", "a", name, None], {"x": None}, name=name)

    def test_equal(self):
        system = sample()
        grades, joins, products, none, nearest = table_of(COST)
        same = System(TableScale(grades, joins, products, none=none, nearest=nearest), SET, ("c", "a", "d", "b"), {
            "d": [("d", "1")], "c": [("b", "3")], "b": (), "a": [("c", "2"), ("b", "0")]})
        self.assertIs(system == same, True)
        self.assertIs(system != same, False)
        self.assertIs(system == made_system(COST, SET, system.states(), {x: system.step(x) for x in "abcd"}), True)
        steps = {x: system.step(x) for x in system.states()}
        turned = {x: tuple(sorted(step, reverse=True)) for x, step in steps.items()}
        others = [System(StopScale(3), SET, system.states(), steps), System(COST, ("back", NEXT), system.states(), steps),
                  System(COST, SET, ["a", "c", "d", "b"], steps), System(COST, SET, system.states(), {**steps, "b": steps["a"]}),
                  System(COST, SET, ["b", "a", "d", "c"], turned), System(COST, SET, [], {})]
        for other in others + any_values() + [system.states()]:
            self.assertIs(system == other, False)
            self.assertIs(system != other, True)
        # Empty systems are told apart by scale and kind alone.
        self.assertIs(System(COST, NEXT, [], {}) == System(StopScale(3), NEXT, [], {}), False)
        self.assertIs(System(COST, NEXT, [], {}) == System(COST, SET, [], {}), False)

    def test_nothing_is_kept_or_changed(self):
        states, steps = ["b", "a"], {"a": [("b", "1")], "b": []}
        for make in (System, made_system):
            given = [list(states), {"a": [("b", "1")], "b": []}]
            system = make(COST, SET, *given)
            self.assertEqual(given, [states, steps])
            spoil(given)
            self.assertTrue(system == System(COST, SET, states, steps))
            self.assertTrue(share_nothing(system.states(), system.states()))
            system.states().append("c")
            self.check_alike(system.states(), ["b", "a"])


class ReachedTest(Checks, unittest.TestCase):

    def test_example(self):
        system = sample()
        for states, reached in (([], []), (["b"], ["b"]), (["c"], ["c", "b"]), (["a"], ["c", "a", "b"]),
                                (["d"], ["d"]), (["b", "d"], ["d", "b"]), (("d", "a", "a"), ["c", "a", "d", "b"])):
            self.check_alike(reached_from(system, states), reached)
            self.check_alike(part_from(system, states).states(), reached)

    def test_by_their_words(self):
        chance = random.Random(42)
        for scale in scales():
            for kind in kinds(scale):
                states = ["e.", "d", "", "c", "b"]
                system = random_system(kind, scale, states, chance)
                for _ in range(3):
                    start = chance.sample(states, chance.randrange(3))
                    reached = set(start)
                    for _ in states:
                        for x in list(reached):
                            reached.update(states_in(kind, system.step(x)))
                    wanted = [x for x in states if x in reached]
                    self.check_alike(reached_from(system, start), wanted)
                    part = part_from(system, start)
                    self.assertTrue(part == made_system(scale, kind, wanted, {x: system.step(x) for x in wanted}))
                    for x in wanted:
                        self.check_alike(part.step(x), system.step(x))

    def test_unknown_states(self):
        system = sample()
        for value in any_values() + ["e"]:
            for call in (reached_from, part_from):
                self.check_raises(UnknownState, call, system, [value], name=value)
                self.check_raises(UnknownState, call, system, ("a", value, "first"), name=value)

    def test_nothing_is_changed(self):
        states = ["a", "d"]
        self.assertTrue(share_nothing(reached_from(sample(), states), reached_from(sample(), states), states))
        self.assertEqual(states, ["a", "d"])


class SumTest(Checks, unittest.TestCase):

    def test_example(self):
        other = System(COST, SET, ["b", "a"], {"a": [("b", "1"), ("a", "0")], "b": []})
        told_sum = summed(other, sample())
        self.check_alike(told_sum.states(), ["l.b", "l.a", "r.c", "r.a", "r.d", "r.b"])
        self.check_alike([told_sum.step(x) for x in told_sum.states()],
                         [(), (("l.b", "1"), ("l.a", "0")), (("r.b", "3"),), (("r.c", "2"), ("r.b", "0")), (("r.d", "1"),), ()])
        self.assertTrue(told_sum.scale == COST)
        self.check_alike(told_sum.kind, SET)

    def test_by_their_words(self):
        chance = random.Random(43)
        for scale in scales():
            for kind in kinds(scale):
                one = random_system(kind, scale, ["b", "a"], chance)
                two = random_system(kind, scale, ["a", "c.", ""], chance)
                told_sum = summed(one, two)
                states = ["l.b", "l.a", "r.a", "r.c.", "r."]
                self.check_alike(told_sum.states(), states)
                for word, system in (("l.", one), ("r.", two)):
                    for x in system.states():
                        self.check_alike(told_sum.step(word + x), led_value(
                            kind, scale, states, system.step(x), {z: word + z for z in system.states()}))

    def test_without_states(self):
        nothing = System(COST, SET, [], {})
        self.assertTrue(summed(nothing, nothing) == nothing)
        self.check_alike(summed(sample(), nothing).states(), ["l.c", "l.a", "l.d", "l.b"])

    def test_mixed(self):
        for other in (System(StopScale(3), SET, [], {}), System(StopScale(3), NEXT, [], {})):
            self.check_raises(MixedScales, summed, sample(), other)
            self.check_raises(MixedScales, summed, other, sample())
        self.check_raises(MixedKinds, summed, sample(), System(COST, ("back", NEXT), [], {}))
        self.check_raises(MixedKinds, summed, System(COST, NEXT, ["a"], {"a": "a"}), sample())


class BothSideTest(Checks, unittest.TestCase):

    def test_example(self):
        one = System(COST, SET, ["b", "a"], {"a": [("b", "1"), ("a", "0")], "b": []})
        two = System(COST, ("along", NEXT, NAMES), ["y", "x"], {"x": ("y", "red"), "y": ("y", "blue")})
        both = both_side(one, two)
        self.check_alike(both.kind, ("both", SET, ("along", NEXT, NAMES)))
        self.check_alike(both.states(), ["b,y", "b,x", "a,y", "a,x"])
        self.check_alike([both.step(x) for x in both.states()], [
            ((), ("b,y", "blue")), ((), ("b,y", "red")), ((("b,y", "1"), ("a,y", "0")), ("a,y", "blue")),
            ((("b,x", "1"), ("a,x", "0")), ("a,y", "red"))])

    def test_by_their_words(self):
        chance = random.Random(44)
        for scale in scales():
            for kind in kinds(scale):
                other_kind = chance.choice(kinds(scale))
                one = random_system(kind, scale, ["b", "a"], chance)
                two = random_system(other_kind, scale, ["c", "", "a.b"], chance)
                both = both_side(one, two)
                states = [x + "," + y for x in one.states() for y in two.states()]
                self.check_alike(both.states(), states)
                self.check_alike(both.kind, ("both", kind, other_kind))
                self.assertTrue(both.scale == scale)
                for x in one.states():
                    for y in two.states():
                        self.check_alike(both.step(x + "," + y), (
                            led_value(kind, scale, states, one.step(x), {z: z + "," + y for z in one.states()}),
                            led_value(other_kind, scale, states, two.step(y), {z: x + "," + z for z in two.states()})))

    def test_many_states(self):
        chance = random.Random(45)
        names = ["a", "b", "c", "d", "e", "f", "g", "h"]
        one = random_system(SET, COST, names, chance)
        self.assertEqual(len(both_side(one, one)), 64)

    def test_without_states(self):
        nothing = System(COST, NEXT, [], {})
        self.assertEqual(both_side(sample(), nothing).states(), [])
        self.check_alike(both_side(nothing, sample()).kind, ("both", NEXT, SET))

    def test_mixed_scales(self):
        self.check_raises(MixedScales, both_side, sample(), System(StopScale(3), SET, [], {}))
        self.check_raises(MixedScales, both_side, System(CostScale(2), NEXT, [], {}), sample())


class WithStepTest(Checks, unittest.TestCase):

    def test_an_elder_state(self):
        system = sample()
        data = [("b", "1"), ("c", "2"), ("b", "none")]
        told_system = with_step(system, "d", data)
        self.check_alike(told_system.states(), ["c", "a", "d", "b"])
        self.check_alike(told_system.step("d"), (("c", "2"), ("b", "1")))
        for x in "abc":
            self.check_alike(told_system.step(x), system.step(x))
        self.assertTrue(system == sample())
        self.assertEqual(data, [("b", "1"), ("c", "2"), ("b", "none")])
        data.append("x")
        self.check_alike(told_system.step("d"), (("c", "2"), ("b", "1")))

    def test_a_new_state(self):
        told_system = with_step(sample(), "aa", [("aa", "1"), ("b", "2")])
        self.check_alike(told_system.states(), ["c", "a", "d", "b", "aa"])
        self.check_alike(told_system.step("aa"), (("b", "2"), ("aa", "1")))
        self.assertEqual(len(with_step(System(COST, NEXT, [], {}), "a", "a")), 1)

    def test_states_that_are_no_words(self):
        system = made_system(COST, NEXT, ["A", "b"], {"A": "b", "b": "A"})
        self.check_alike(with_step(system, "A", "A").step("A"), "A")
        self.check_alike(with_step(system, "c", "A").states(), ["A", "b", "c"])
        for name in BAD_WORDS[2:] + [value for value in any_values() if value not in ("zz", "A")]:
            self.check_raises(BadName, with_step, system, name, None, name=name)

    def test_errors_of_values(self):
        for value in any_values():
            self.check_raises(BadValue, with_step, sample(), "a", [value], path=(0,))
            if value != "0":
                self.check_raises(UnknownGrade, with_step, sample(), "a", [("a", value)], name=value)
        self.check_raises(UnknownState, with_step, sample(), "a", [("e", "0")], name="e")
        self.check_raises(UnknownState, with_step, sample(), "f", [("f", "0"), ("e", "0")], name="e")


class WithoutStateTest(Checks, unittest.TestCase):

    def test_states_that_none_leads_to(self):
        system = sample()
        told_system = without_state(system, "d")
        self.check_alike(told_system.states(), ["c", "a", "b"])
        for x in "abc":
            self.check_alike(told_system.step(x), system.step(x))
        self.check_alike(without_state(system, "a").states(), ["c", "d", "b"])
        self.assertTrue(system == sample())
        self.assertEqual(len(without_state(System(COST, NEXT, ["a"], {"a": "a"}), "a")), 0)

    def test_states_that_others_lead_to(self):
        self.check_raises(OpenState, without_state, sample(), "b", name="c")
        self.check_raises(OpenState, without_state, sample(), "c", name="a")
        system = System(COST, NEXT, ["c", "b", "a"], {"a": "a", "b": "a", "c": "b"})
        self.check_raises(OpenState, without_state, system, "a", name="b")

    def test_unknown_states(self):
        for value in any_values() + ["e"]:
            self.check_raises(UnknownState, without_state, sample(), value, name=value)

    def test_states_that_are_no_words(self):
        system = made_system(COST, NEXT, ["A", "b c"], {"A": "A", "b c": "A"})
        self.check_alike(without_state(system, "b c").states(), ["A"])


if __name__ == "__main__":
    unittest.main()
