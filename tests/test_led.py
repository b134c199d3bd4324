import random
import unittest

from neargrades.errors import MixedKinds, MixedScales, UnknownGrade
from neargrades.judging import judge_paper
from neargrades.kinds import check_kind
from neargrades.led import (
    first_less, keeps_meets, mapped_kind, mapped_paper, mapped_saying, mapped_system, mapped_value,
)
from neargrades.papers import paper_of
from neargrades.residues import within
from neargrades.rounds import nearness
from neargrades.sayings import check_saying
from neargrades.scalemaps import ScaleMap, all_maps, keeps_only
from neargrades.scales import CostScale, LevelScale, PairScale, SetScale, StopScale, TableScale, first_fault
from neargrades.spaces import Space
from neargrades.systems import System, made_system, steps_of
from neargrades.values import is_value, value_of
from neargrades.worths import worths
from tests.kindsamples import hues, kinds, random_data, told
from tests.nearsamples import ODD_NAMES, STATE_NAMES, meet, pairs, random_system
from tests.samples import Checks, any_values, one_grade, share_nothing
from tests.sayingsamples import random_saying

COST = CostScale(2)
NEXT = ("next",)


def wide():
    """A scale whose product is mostly none: a and b have a join below nearest, and no grade but none within both."""
    grades = ["0", "a", "b", "c", "1"]
    joins = [["0", "a", "b", "c", "1"], ["a", "a", "c", "c", "1"], ["b", "c", "b", "c", "1"], ["c", "c", "c", "c", "1"], ["1"] * 5]
    products = [["0"] * 5, ["0"] * 4 + ["a"], ["0"] * 4 + ["b"], ["0"] * 4 + ["c"], ["0", "a", "b", "c", "1"]]
    return TableScale(grades, joins, products, none="0", nearest="1")


def flat():
    """A map that keeps no meet of a and b."""
    return ScaleMap(wide(), CostScale(1), ["none", "1", "1", "1", "0"])


def doubled():
    return ScaleMap(COST, CostScale(4), ["0", "2", "4", "none"])


def sharp():
    """All that is not nearest becomes none."""
    return ScaleMap(LevelScale(2), LevelScale(1), ["0", "0", "1"])


def soft():
    """All that is not none becomes nearest."""
    return ScaleMap(LevelScale(2), SetScale(["p"]), ["0", "p", "p"])


def sample_maps():
    pair = PairScale(CostScale(0), LevelScale(2))
    left = ScaleMap(pair, LevelScale(1), ["0" if grade.startswith("none") else "1" for grade in pair.grades()])
    return [
        flat(), doubled(), sharp(), soft(), left, ScaleMap.same(COST), all_maps(StopScale(1), SetScale(["p", "q"]))[1],
        all_maps(SetScale(["p", "q"]), StopScale(1))[0], all_maps(LevelScale(2), CostScale(1))[1],
        ScaleMap(COST, one_grade(), ["only"] * 4), all_maps(SetScale(["q", "p"]), SetScale(["p", "q"]))[1],
    ]


def led_kind(m, kind):
    """By the words."""
    if kind[0] == "names":
        names = kind[1].names()
        return ("names", Space(m.target, names, [[m(kind[1].near(a, b)) for b in names] for a in names]))
    if kind[0] == "next":
        return kind
    if kind[0] == "row":
        return ("row", kind[1], led_kind(m, kind[2]))
    return (kind[0],) + tuple(led_kind(m, part) for part in kind[1:])


def led_data(m, kind, value):
    word = kind[0]
    if word in ("names", "next"):
        return value
    if word in ("both", "along"):
        return tuple(led_data(m, part, inner) for part, inner in zip(kind[1:], value))
    if word == "either":
        return (value[0], led_data(m, kind[1 if value[0] == "left" else 2], value[1]))
    if word == "row":
        return tuple(led_data(m, kind[2], inner) for inner in value)
    return [(led_data(m, kind[1], inner), m(grade)) for inner, grade in value]


def led_saying(m, saying):
    if isinstance(saying, str):
        return m(saying)
    if saying[0] == "like":
        return saying
    if saying[0] in ("by", "if"):
        return (saying[0], m(saying[1]), led_saying(m, saying[2]))
    return (saying[0],) + tuple(led_saying(m, part) for part in saying[1:])


class KindTest(Checks, unittest.TestCase):

    def test_samples_are_lawful(self):
        self.assertIsNone(first_fault(wide()))
        self.assertEqual(len(sample_maps()), 11)

    def test_all_kinds(self):
        for m in sample_maps():
            for kind in kinds(m.source):
                led = mapped_kind(m, kind)
                self.check_alike(led, led_kind(m, kind))
                self.assertIsNone(check_kind(led, m.target))

    def test_mixed_scales(self):
        m = sharp()
        for kind in kinds(COST):
            if "names" in repr(kind):
                self.check_raises(MixedScales, mapped_kind, m, kind)
            else:
                self.check_alike(mapped_kind(m, kind), kind)
        kind = ("both", ("names", hues(LevelScale(2))), ("forth", ("names", hues(COST))))
        self.check_raises(MixedScales, mapped_kind, m, kind)

    def test_equal_scales_are_the_same(self):
        m = ScaleMap(CostScale(2), LevelScale(1), ["1", "0", "0", "0"])
        self.check_alike(mapped_kind(m, NEXT), NEXT)
        self.check_alike(mapped_kind(m, ("names", hues(CostScale(2))))[1].scale, LevelScale(1))


class ValueTest(Checks, unittest.TestCase):

    def test_entries_that_go(self):
        kind = ("forth", NEXT)
        self.check_alike(mapped_value(sharp(), kind, ["a", "b"], (("a", "1"), ("b", "2"))), (("b", "1"),))
        self.check_alike(mapped_value(sharp(), kind, ["a", "b"], (("a", "1"), ("b", "1"))), ())
        self.check_alike(mapped_value(doubled(), kind, ["a", "b"], (("a", "1"), ("b", "2"))), (("a", "2"), ("b", "4")))

    def test_values_that_become_the_same(self):
        # The inner sets differ by an entry that goes, and by grades that become one.
        kind = ("kept", ("forth", NEXT))
        value = ((((("a", "1"), ("b", "2"))), "2"), ((("b", "2"),), "1"))
        self.assertTrue(is_value(kind, LevelScale(2), ["a", "b"], value))
        self.check_alike(mapped_value(sharp(), kind, ["a", "b"], value), (((("b", "1"),), "1"),))
        m = all_maps(SetScale(["p", "q"]), StopScale(1))[0]
        self.assertEqual([m(g) for g in ("0", "p", "q", "pq")], ["none", "0", "none", "0"])
        value = ((("left", "a"), "q"),)
        self.check_alike(mapped_value(m, ("back", ("either", NEXT, NEXT)), ["a"], value), ())
        value = value_of(kind, SetScale(["p", "q"]), ["a"], [([("a", "p")], "q"), ([("a", "pq")], "p"), ([("a", "q")], "p")])
        self.check_alike(mapped_value(m, kind, ["a"], value), (((), "0"), ((("a", "0"),), "0")))

    def test_another_order(self):
        # The grades' places decide between sets: by the map they are exchanged.
        m = ScaleMap(SetScale(["p", "q"]), SetScale(["q", "p"]), ["0", "p", "q", "qp"])
        kind = ("forth", ("forth", NEXT))
        value = (((("a", "p"),), "p"), ((("a", "q"),), "q"))
        self.assertTrue(is_value(kind, m.source, ["a"], value))
        self.check_alike(mapped_value(m, kind, ["a"], value), (((("a", "q"),), "q"), ((("a", "p"),), "p")))

    def test_by_the_words(self):
        chance = random.Random(1)
        for m in sample_maps():
            for kind in kinds(m.source):
                for states in (STATE_NAMES[:3], ODD_NAMES[:2]):
                    value = value_of(kind, m.source, states, random_data(kind, m.source, states, chance))
                    by_words = told(led_kind(m, kind), m.target, states, led_data(m, kind, value))
                    self.check_alike(mapped_value(m, kind, states, value), by_words)
                    self.check_alike(mapped_value(m, kind, tuple(states), value), by_words)
                    self.assertTrue(is_value(mapped_kind(m, kind), m.target, states, by_words))


class SystemTest(Checks, unittest.TestCase):

    def test_by_the_words(self):
        chance = random.Random(2)
        for m in sample_maps():
            for kind in kinds(m.source):
                for states in (STATE_NAMES[:3], ODD_NAMES):
                    system = random_system(kind, m.source, states, chance)
                    led = mapped_system(m, system)
                    self.assertIs(type(led), System)
                    self.assertTrue(led.scale == m.target)
                    self.check_alike(led.kind, led_kind(m, kind))
                    self.check_alike(led.states(), states)
                    self.check_alike(steps_of(led), {x: mapped_value(m, kind, states, system.step(x)) for x in states})

    def test_the_same_map(self):
        system = random_system(("kept", NEXT), COST, STATE_NAMES, random.Random(3))
        self.assertTrue(mapped_system(ScaleMap.same(COST), system) == system)

    def test_one_map_behind_another(self):
        chance = random.Random(4)
        n = ScaleMap(CostScale(4), LevelScale(1), ["1"] + ["0"] * 5)
        for kind in kinds(COST):
            system = random_system(kind, COST, STATE_NAMES[:3], chance)
            self.assertTrue(mapped_system(doubled() >> n, system) == mapped_system(n, mapped_system(doubled(), system)))

    def test_errors(self):
        self.check_raises(MixedScales, mapped_system, sharp(), System(COST, NEXT, [], {}))
        self.check_raises(MixedScales, mapped_system, sharp(), System(LevelScale(3), NEXT, ["a"], {"a": "a"}))
        self.assertEqual(len(mapped_system(sharp(), System(LevelScale(2), NEXT, [], {}))), 0)


class PaperTest(Checks, unittest.TestCase):

    def test_rows(self):
        paper = (("a", "b", "2"), ("b", "b", "1"), ("b", "a", "0"), ("", "a b", "2"))
        self.check_alike(mapped_paper(sharp(), paper), (("a", "b", "1"), ("", "a b", "1")))
        self.check_alike(mapped_paper(soft(), paper), (("a", "b", "p"), ("b", "b", "p"), ("", "a b", "p")))
        self.check_alike(mapped_paper(sharp(), ()), ())

    def test_wrong_grades(self):
        for value in any_values():
            if value != "0":
                self.check_raises(UnknownGrade, mapped_paper, sharp(), (("a", "b", "1"), ("b", "b", value), ("a", "a", "9")),
                                  name=value)

    def test_let_by_along_the_map(self):
        chance = random.Random(5)
        count = 0
        for m in sample_maps():
            for kind in kinds(m.source):
                one = random_system(kind, m.source, STATE_NAMES[:3], chance)
                two = random_system(kind, m.source, ODD_NAMES[:2], chance)
                paper = paper_of(one, two, pairs(one, two))
                for rows in (paper, tuple((x, y, chance.choice(m.source.grades())) for x, y, _ in paper)):
                    if judge_paper(one, two, rows) is None:
                        led = mapped_paper(m, rows)
                        self.assertIsNone(judge_paper(mapped_system(m, one), mapped_system(m, two), led))
                        count += len(led) > 0
        self.assertGreater(count, 100)


class SayingTest(Checks, unittest.TestCase):

    def test_each_form(self):
        m = doubled()
        for saying, led in [
            ("1", "2"), (("and", "1", "2"), ("and", "2", "4")), (("or", "none", "0"), ("or", "none", "0")),
            (("by", "1", "2"), ("by", "2", "4")), (("if", "2", "1"), ("if", "4", "2")), (("step", "1"), ("step", "2")),
            (("step", ("like", "red")), ("step", ("like", "red"))), (("step", ("now", "1")), ("step", ("now", "2"))),
            (("step", ("rows", "1", ("like", "1"), "2")), ("step", ("rows", "2", ("like", "1"), "4"))),
            (("step", ("halves", ("some", "1"), ("all", "2"))), ("step", ("halves", ("some", "2"), ("all", "4")))),
            (("step", ("left", ("right", "1"))), ("step", ("left", ("right", "2")))),
        ]:
            self.check_alike(mapped_saying(m, saying), led)

    def test_by_the_words(self):
        chance = random.Random(6)
        for m in sample_maps():
            for kind in kinds(m.source):
                for _ in range(4):
                    saying = random_saying(kind, m.source, chance, 7)
                    self.check_alike(mapped_saying(m, saying), led_saying(m, saying))
                    self.assertIsNone(check_saying(mapped_kind(m, kind), m.target, mapped_saying(m, saying)))

    def test_wrong_grades(self):
        m = sharp()
        for saying, name in [
            ("3", "3"), (("and", "4", "3"), "4"), (("and", ("step", ("now", "5")), "3"), "5"), (("by", "6", "7"), "6"),
            (("if", "1", ("by", "7", "8")), "7"), (("or", "1", ("rows", "2", "9", "8")), "9"), (("by", "8", ("and", "9", "5")), "8"),
        ]:
            self.check_raises(UnknownGrade, mapped_saying, m, saying, name=name)

    def test_deep_ones(self):
        saying = led = "1"
        for _ in range(2000):
            saying, led = ("step", ("now", saying)), ("step", ("now", led))
        told_led = mapped_saying(ScaleMap(COST, CostScale(2), ["0", "1", "2", "none"]), saying)
        count = 0
        while isinstance(told_led, tuple):
            told_led, led = told_led[1], led[1]
            count += 1
        self.assertEqual((told_led, led, count), ("1", "1", 4000))


class KeptTest(Checks, unittest.TestCase):

    def test_examples(self):
        self.check_alike(keeps_meets(flat()), ("a", "b"))
        for m in (doubled(), sharp(), soft(), ScaleMap.same(wide())):
            self.assertIsNone(keeps_meets(m))

    def test_by_the_words(self):
        for m in sample_maps() + all_maps(wide(), COST) + all_maps(wide(), wide()):
            grades = m.source.grades()
            wrong = [(a, b) for a in grades for b in grades
                     if m(meet(m.source, [a, b])) != meet(m.target, [m(a), m(b)])]
            self.check_alike(keeps_meets(m), wrong[0] if wrong else None)

    def test_image_of_nearness_is_within(self):
        chance = random.Random(7)
        seen = {"less": 0, "same": 0, "kept": 0}
        for m in sample_maps() + [ScaleMap(CostScale(2), CostScale(2), image) for image in (
                ["0", "1", "2", "none"], ["0", "2", "none", "none"])]:
            exact = keeps_meets(m) is None and keeps_only(m) is None
            for kind in kinds(m.source):
                one = random_system(kind, m.source, STATE_NAMES[:3], chance)
                two = random_system(kind, m.source, ODD_NAMES[:2], chance)
                table = nearness(one, two)[0]
                led = nearness(mapped_system(m, one), mapped_system(m, two))[0]
                self.assertTrue(all(within(m.target, m(grade), led[pair]) for pair, grade in table.items()))
                wrong = [pair for pair in pairs(one, two) if m(table[pair]) != led[pair]]
                self.check_alike(first_less(m, one, two), wrong[0] if wrong else None)
                seen["less" if wrong else "same"] += 1
                if exact:
                    seen["kept"] += 1
                    self.assertEqual(wrong, [])
                    for _ in range(3):
                        saying = random_saying(kind, m.source, chance, 6)
                        behind = worths(mapped_system(m, one), mapped_saying(m, saying))
                        self.check_alike(behind, {x: m(worth) for x, worth in worths(one, saying).items()})
        self.assertTrue(min(seen.values()) > 15, seen)

    def test_less(self):
        # At 1 b follows a by 1 alone; where 1 becomes nearest it follows by all.
        kind = ("forth", NEXT)
        steps = {"a": [("a", "2")], "b": [("b", "1")]}
        system = System(LevelScale(2), kind, ["a", "b"], steps)
        self.assertEqual(nearness(system, system)[0][("a", "b")], "1")
        self.assertIsNone(first_less(soft(), system, system))
        # Sharp: 2 => 1 becomes none, but 1 => 1 becomes nearest.
        system = System(LevelScale(2), kind, ["a", "b", "c"], {"a": [("c", "1")], "b": [], "c": []})
        self.assertEqual(nearness(system, system)[0][("a", "b")], "0")
        self.check_alike(first_less(sharp(), system, system), ("a", "b"))

    def test_errors(self):
        m = sharp()
        one, cost = System(LevelScale(2), NEXT, ["a"], {"a": "a"}), System(COST, NEXT, ["a"], {"a": "a"})
        other = System(LevelScale(2), ("forth", NEXT), ["a"], {"a": []})
        self.check_raises(MixedScales, first_less, m, one, cost)
        self.check_raises(MixedKinds, first_less, m, one, other)
        self.check_raises(MixedScales, first_less, m, cost, cost)
        mixed = made_system(COST, ("forth", NEXT), ["a"], {"a": []})
        self.check_raises(MixedKinds, first_less, m, cost, mixed)
        none = System(LevelScale(2), NEXT, [], {})
        self.assertIsNone(first_less(m, none, one))

    def test_nothing_is_changed_or_kept(self):
        states = ["a", "b"]
        system = System(LevelScale(2), ("forth", NEXT), states, {"a": [("b", "1")], "b": []})
        led = mapped_system(sharp(), system)
        self.assertTrue(share_nothing(states, led.states(), system.states()))
        mapped_value(sharp(), system.kind, states, system.step("a"))
        self.check_alike(states, ["a", "b"])
        self.check_alike(system.step("a"), (("b", "1"),))


if __name__ == "__main__":
    unittest.main()
