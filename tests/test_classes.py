import itertools
import random
import unittest

from neargrades.classes import all_classes, check_blocks, classes, first_of, partners
from neargrades.errors import (
    BadBlocks, MixedKinds, MixedScales, NotIdempotent, NotLike, UnknownGrade, UnknownState,
)
from neargrades.residues import idempotent, within
from neargrades.rounds import nearness
from neargrades.scales import CostScale, LevelScale, SetScale, StopScale
from neargrades.systems import System, made_system
from tests.foldsamples import classes_by_words, firsts_by_words, likely_system, likely_systems, like, likes, random_blocks
from tests.kindsamples import hues, kinds
from tests.nearsamples import ODD_NAMES, STATE_NAMES, couples
from tests.samples import Checks, any_values, one_grade, share_nothing, spoil

LEVEL = LevelScale(2)
NEXT = ("next",)


def ladder():
    """Three states: the first two are like at 1, and no two at 2."""
    kind = ("forth", NEXT)
    return System(LEVEL, kind, ["c", "b", "a"], {"c": [("a", "2")], "b": [("a", "1")], "a": []})


class ClassesTest(Checks, unittest.TestCase):

    def test_examples(self):
        system = ladder()
        self.check_alike(classes(system, "0"), [["c", "b", "a"]])
        self.check_alike(classes(system, "1"), [["c", "b"], ["a"]])
        self.check_alike(classes(system, "2"), [["c"], ["b"], ["a"]])
        self.check_alike(all_classes(system), [
            ("0", [["c", "b", "a"]]), ("1", [["c", "b"], ["a"]]), ("2", [["c"], ["b"], ["a"]])])
        self.assertEqual([first_of(system, "1", x) for x in "cba"], ["c", "c", "a"])
        self.assertEqual([first_of(system, "2", x) for x in "cba"], ["c", "b", "a"])
        self.assertEqual([first_of(system, "0", x) for x in "cba"], ["c", "c", "c"])

    def test_near_one_way_alone_is_not_like(self):
        system = System(CostScale(2), ("forth", NEXT), ["a", "b"], {"a": [("b", "0")], "b": []})
        self.assertEqual(nearness(system, system)[0][("b", "a")], "0")
        self.check_alike(classes(system, "0"), [["a"], ["b"]])
        self.check_alike(classes(system, "none"), [["a", "b"]])

    def test_by_the_words(self):
        chance = random.Random(1)
        seen = set()
        for system in likely_systems(chance):
            told = []
            for e in system.scale.grades():
                if system.scale.then(e, e) != e:
                    self.check_raises(NotIdempotent, classes, system, e, name=e)
                    continue
                blocks = classes_by_words(system, e)
                self.check_alike(classes(system, e), blocks)
                told.append((e, blocks))
                for block in blocks:
                    for x in block:
                        self.check_alike(first_of(system, e, x), block[0])
                seen.add((len(system.scale), len(blocks), len(system)))
            self.check_alike(all_classes(system), told)
        self.assertGreater(len(seen), 20)

    def test_classes_at_greater_grades_lie_within(self):
        for system in likely_systems(random.Random(2)):
            for (e, blocks), (d, inner) in itertools.product(all_classes(system), repeat=2):
                if within(system.scale, e, d):
                    for block in inner:
                        self.assertTrue(any(set(block) <= set(other) for other in blocks))

    def test_two_idempotent_grades_that_are_not_comparable(self):
        scale = SetScale(["p", "q"])
        names = ("names", hues(scale))
        system = System(scale, ("forth", names), ["a", "b", "c"], {
            "a": [("red", "pq")], "b": [("red", "p")], "c": [("red", "q")]})
        self.check_alike(all_classes(system), [
            ("0", [["a", "b", "c"]]), ("p", [["a", "b"], ["c"]]), ("q", [["a", "c"], ["b"]]), ("pq", [["a"], ["b"], ["c"]])])

    def test_no_states(self):
        for kind in kinds(LEVEL):
            system = System(LEVEL, kind, [], {})
            self.check_alike(classes(system, "1"), [])
            self.check_alike(all_classes(system), [("0", []), ("1", []), ("2", [])])
            self.check_raises(UnknownState, first_of, system, "1", "a", name="a")

    def test_one_grade(self):
        system = made_system(one_grade(), NEXT, ["a", "b"], {"a": "a", "b": "a"})
        self.check_alike(all_classes(system), [("only", [["a", "b"]])])

    def test_errors(self):
        system = ladder()
        cost = System(CostScale(2), NEXT, ["a"], {"a": "a"})
        for value in any_values():
            if value != "0":
                self.check_raises(UnknownGrade, classes, system, value, name=value)
                self.check_raises(UnknownGrade, first_of, system, value, None, name=value)
                self.check_raises(UnknownGrade, partners, system, system, value, name=value)
            self.check_raises(UnknownState, first_of, system, "1", value, name=value)
        self.check_raises(NotIdempotent, classes, cost, "1", name="1")
        self.check_raises(NotIdempotent, first_of, cost, "2", None, name="2")
        self.check_raises(NotIdempotent, partners, cost, cost, "1", name="1")
        self.check_alike(classes(cost, "none"), [["a"]])

    def test_new_lists(self):
        system = ladder()
        for call, *more in ((classes, "1"), (all_classes,)):
            told = call(system, *more)
            self.assertTrue(share_nothing(told, call(system, *more)))
            spoil(told)
            self.assertFalse(told == call(system, *more))
        self.check_alike(system.states(), ["c", "b", "a"])


class PartnersTest(Checks, unittest.TestCase):

    def test_example(self):
        one = ladder()
        two = System(LEVEL, one.kind, ["z", "y"], {"z": [("y", "1")], "y": []})
        self.check_alike(partners(one, two, "2"), {"c": None, "b": "z", "a": "y"})
        self.check_alike(partners(one, two, "1"), {"c": "z", "b": "z", "a": "y"})
        self.check_alike(partners(two, one, "1"), {"z": "c", "y": "a"})
        self.check_alike(partners(two, one, "2"), {"z": "b", "y": "a"})
        self.check_alike(partners(one, two, "0"), {"c": "z", "b": "z", "a": "z"})

    def test_by_the_words(self):
        chance = random.Random(3)
        seen = set()
        for one, two in couples(chance, 3, 3, scales=[LEVEL, SetScale(["p", "q"]), StopScale(1)]):
            for e in idempotent(one.scale):
                told = {x: next((y for y in two.states() if like(one, two, e, x, y)), None) for x in one.states()}
                self.check_alike(partners(one, two, e), told)
                seen.add(tuple(two.states().index(y) if y is not None else None for y in told.values()))
        self.assertGreater(len(seen), 8)

    def test_with_itself(self):
        for system in likely_systems(random.Random(4)):
            for e in idempotent(system.scale):
                self.check_alike(partners(system, system, e), {x: first_of(system, e, x) for x in system.states()})

    def test_no_states(self):
        none = System(LEVEL, ladder().kind, [], {})
        self.check_alike(partners(none, ladder(), "1"), {})
        self.check_alike(partners(ladder(), none, "1"), {"c": None, "b": None, "a": None})

    def test_errors(self):
        one = ladder()
        self.check_raises(MixedScales, partners, one, System(StopScale(1), NEXT, [], {}), None)
        self.check_raises(MixedKinds, partners, one, System(LEVEL, NEXT, [], {}), None)
        self.check_raises(UnknownGrade, partners, one, one, "3", name="3")


class CheckBlocksTest(Checks, unittest.TestCase):

    def test_right_blocks(self):
        chance = random.Random(5)
        for system in likely_systems(chance):
            for e in idempotent(system.scale):
                for _ in range(2):
                    blocks = random_blocks(system, e, chance)
                    self.assertIsNone(check_blocks(system, e, blocks))
                    self.assertIsNone(check_blocks(system, e, tuple(blocks)))

    def test_all_ways_to_part_the_states(self):
        chance = random.Random(6)
        seen = 0
        for scale in (LEVEL, CostScale(2)):
            for kind in kinds(scale):
                system = likely_system(kind, scale, ODD_NAMES[:4], chance)
                is_like = {e: likes(system, e) for e in idempotent(scale)}
                for homes in chance.sample(list(itertools.product(range(4), repeat=4)), 60):
                    blocks = [[x for x, at in zip(system.states(), homes) if at == home] for home in range(4)]
                    blocks = [block[::-1] for block in blocks if block]
                    chance.shuffle(blocks)
                    e = chance.choice(idempotent(scale))
                    leads = firsts_by_words(system, blocks)
                    wrong = [(leads[x], x) for x in system.states() if not is_like[e](leads[x], x)]
                    if wrong:
                        self.check_raises(NotLike, check_blocks, system, e, blocks, members=wrong[0])
                        seen += 1
                    else:
                        self.assertIsNone(check_blocks(system, e, blocks))
        self.assertGreater(seen, 100)

    def test_the_first_one_that_is_not_like(self):
        system = ladder()
        self.check_raises(NotLike, check_blocks, system, "1", [["a", "b", "c"]], members=("c", "a"))
        self.check_raises(NotLike, check_blocks, system, "2", [["a", "b", "c"]], members=("c", "b"))
        self.check_raises(NotLike, check_blocks, system, "2", [["a"], ("b", "c")], members=("c", "b"))
        self.check_raises(NotLike, check_blocks, system, "1", [["c"], ["a", "b"]], members=("b", "a"))
        self.assertIsNone(check_blocks(system, "1", [("a",), ["b", "c"]]))
        self.assertIsNone(check_blocks(system, "2", (("a",), ["b"], ["c"])))
        self.assertIsNone(check_blocks(system, "0", [["a", "b", "c"]]))

    def test_what_is_no_blocks(self):
        system = ladder()
        wrong = any_values() + [
            [["c", "b"]], [["c", "b", "a", "a"]], [["c", "b"], ["c"]], [["c", "c", "b"]], [["a", "a", "a"]], [["c", "b"], ["a", "c"]], [["c", "b"], ["a"], []], [["c", "b"], ["a"], ()],
            [["c", "b", "a"], None], [["c", "b", "z"]], [["c", "b", ["a"]]], [["c", "b", None]], [["c", "b", 1]], ["c", "b", "a"],
            ["cba"], "cba", {"c": 1, "b": 2, "a": 3}, {("c", "b", "a"): 1}, [{"c": 1, "b": 2, "a": 3}], [["c", "b"], "a"],
            [["c", "b"], ["a"], ["a"]], [[["c", "b", "a"]]], [["c", "b", ("a",)]], [["c", "b", {}]], [["c", "b", True, "a"]],
        ]
        for value in wrong:
            self.check_raises(BadBlocks, check_blocks, system, "1", value)
            self.check_raises(BadBlocks, check_blocks, system, "2", value)

    def test_no_states(self):
        none = System(LEVEL, NEXT, [], {})
        self.assertIsNone(check_blocks(none, "1", []))
        self.assertIsNone(check_blocks(none, "1", ()))
        for value in any_values() + [[[]], [["a"]]]:
            if value not in ([], ()):
                self.check_raises(BadBlocks, check_blocks, none, "1", value)

    def test_the_grade_comes_first(self):
        for value in any_values():
            if value != "0":
                self.check_raises(UnknownGrade, check_blocks, ladder(), value, None, name=value)
        cost = System(CostScale(2), NEXT, STATE_NAMES[:1], {"c": "c"})
        self.check_raises(NotIdempotent, check_blocks, cost, "1", None, name="1")
        self.check_raises(BadBlocks, check_blocks, cost, "0", None)

    def test_blocks_are_not_changed(self):
        blocks = [["b", "c"], ("a",)]
        check_blocks(ladder(), "1", blocks)
        self.check_alike(blocks, [["b", "c"], ("a",)])


if __name__ == "__main__":
    unittest.main()
