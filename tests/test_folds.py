import random
import unittest

from neargrades.classes import classes, first_of
from neargrades.errors import BadBlocks, NotIdempotent, NotLike, UnknownGrade
from neargrades.folds import fold_paper, folded, unfold_paper
from neargrades.judging import judge_paper
from neargrades.residues import idempotent, within
from neargrades.rounds import nearness
from neargrades.scales import CostScale, LevelScale, SetScale
from neargrades.systems import System, steps_of
from neargrades.worths import worths
from tests.foldsamples import (
    classes_by_words, firsts_by_words, folded_by_words, likely_system, likely_systems, near_table, random_blocks,
)
from tests.kindsamples import kinds
from tests.nearsamples import ODD_NAMES
from tests.samples import Checks, any_values, share_nothing, spoil
from tests.sayingsamples import random_saying

LEVEL = LevelScale(2)
NEXT = ("next",)


def pairs_of_leaders():
    """Two states that lead to unlike copies of one end; d leads to both."""
    steps = {"a": [("x", "2")], "b": [("y", "2")], "x": [], "y": [], "d": [("x", "1"), ("y", "2"), ("a", "1")]}
    return System(LEVEL, ("forth", NEXT), list(steps), steps)


class FoldedTest(Checks, unittest.TestCase):

    def test_example(self):
        system = pairs_of_leaders()
        told = folded(system, "2")
        self.check_alike(told.states(), ["a", "x", "d"])
        self.check_alike(steps_of(told), {"a": (("x", "2"),), "x": (), "d": (("a", "1"), ("x", "2"))})
        told = folded(system, "2", blocks=[["b", "a"], ["x"], ("y",), ["d"]])
        self.check_alike(told.states(), ["a", "x", "y", "d"])
        self.check_alike(steps_of(told), {"a": (("x", "2"),), "x": (), "y": (), "d": (
            ("a", "1"), ("x", "1"), ("y", "2"))})
        told = folded(system, "0")
        self.check_alike(steps_of(told), {"a": (("a", "2"),)})

    def test_by_the_words(self):
        chance = random.Random(1)
        fewer = 0
        for system in likely_systems(chance):
            for e in idempotent(system.scale):
                for blocks in (None, random_blocks(system, e, chance), random_blocks(system, e, chance)):
                    told = folded(system, e, blocks=blocks)
                    left, steps = folded_by_words(system, classes_by_words(system, e) if blocks is None else blocks)
                    self.assertIs(type(told), System)
                    self.assertTrue(told.scale == system.scale and told.kind == system.kind)
                    self.check_alike(told.states(), left)
                    self.check_alike(steps_of(told), steps)
                    fewer += 1 < len(left) < len(system)
        self.assertGreater(fewer, 60)

    def test_nearness_behind_a_fold(self):
        chance = random.Random(2)
        for system in likely_systems(chance):
            scale = system.scale
            table = near_table(system, system)
            for e in idempotent(scale):
                for blocks in (None, random_blocks(system, e, chance)):
                    told = folded(system, e, blocks=blocks)
                    leads = firsts_by_words(system, classes_by_words(system, e) if blocks is None else blocks)
                    behind = nearness(told, told)[0]
                    for (x, y), grade in table.items():
                        self.assertEqual(scale.then(grade, e), scale.then(behind[(leads[x], leads[y])], e))

    def test_worths_behind_a_fold(self):
        chance = random.Random(3)
        for system in likely_systems(chance):
            scale = system.scale
            for e in idempotent(scale):
                told = folded(system, e)
                for _ in range(2):
                    saying = random_saying(system.kind, scale, chance, 6)
                    before, behind = worths(system, saying), worths(told, saying)
                    for x in system.states():
                        p = first_of(system, e, x)
                        self.assertEqual(scale.then(before[x], e), scale.then(behind[p], e))

    def test_no_two_states_that_are_left_are_like(self):
        for system in likely_systems(random.Random(4)):
            for e in idempotent(system.scale):
                told = folded(system, e)
                self.check_alike(classes(told, e), [[x] for x in told.states()])
                self.assertTrue(folded(told, e) == told)

    def test_at_a_greater_grade_and_then_at_a_lesser_one(self):
        chance = random.Random(5)
        count = 0
        for system in likely_systems(chance):
            scale = system.scale
            for e in idempotent(scale):
                for d in idempotent(scale):
                    if within(scale, e, d):
                        once = folded(system, e)
                        for blocks in (None, random_blocks(system, d, chance)):
                            self.assertTrue(folded(folded(system, d, blocks=blocks), e) == once)
                            count += e != d
        self.assertGreater(count, 100)

    def test_blocks_that_fold_nothing(self):
        for system in likely_systems(random.Random(6)):
            for e in idempotent(system.scale):
                told = folded(system, e, blocks=[[x] for x in system.states()[::-1]])
                self.assertTrue(told == system)

    def test_no_states(self):
        none = System(LEVEL, NEXT, [], {})
        for blocks in (None, [], ()):
            self.assertTrue(folded(none, "1", blocks=blocks) == none)
            self.check_alike(fold_paper(none, "1", blocks=blocks), ())
            self.check_alike(unfold_paper(none, "1", blocks=blocks), ())

    def test_values_that_become_the_same(self):
        scale = SetScale(["p", "q"])
        kind = ("kept", ("both", NEXT, NEXT))
        system = System(scale, kind, ["a", "b", "c"], {
            "a": [], "b": [], "c": [(("a", "b"), "p"), (("b", "a"), "q"), (("c", "b"), "q")]})
        told = folded(system, "pq")
        self.check_alike(steps_of(told), {"a": (), "c": ((("a", "a"), "pq"), (("c", "a"), "q"))})


class PaperTest(Checks, unittest.TestCase):

    def test_examples(self):
        system = System(LEVEL, ("forth", NEXT), ["c", "b", "a"], {"c": [("a", "2")], "b": [("a", "1")], "a": []})
        self.check_alike(fold_paper(system, "1"), (
            ("c", "c", "1"), ("b", "c", "1"), ("a", "c", "1"), ("a", "a", "1")))
        self.check_alike(unfold_paper(system, "1"), (
            ("c", "c", "1"), ("c", "b", "1"), ("a", "c", "1"), ("a", "b", "1"), ("a", "a", "1")))
        self.check_alike(fold_paper(system, "2", blocks=[["a"], ["c"], ["b"]]), (
            ("c", "c", "2"), ("c", "b", "1"), ("b", "c", "2"), ("b", "b", "2"), ("a", "c", "2"), ("a", "b", "2"), ("a", "a", "2")))
        self.check_alike(fold_paper(system, "0"), ())
        self.check_alike(unfold_paper(system, "0"), ())

    def test_by_the_words(self):
        chance = random.Random(7)
        for system in likely_systems(chance):
            scale = system.scale
            table = near_table(system, system)
            for e in idempotent(scale):
                for blocks in (None, random_blocks(system, e, chance)):
                    told = folded(system, e, blocks=blocks)
                    one = [(x, p, scale.then(table[(x, p)], e)) for x in system.states() for p in told.states()]
                    two = [(p, x, scale.then(table[(p, x)], e)) for p in told.states() for x in system.states()]
                    papers = (fold_paper(system, e, blocks=blocks), unfold_paper(system, e, blocks=blocks))
                    self.check_alike(papers[0], tuple(row for row in one if row[2] != scale.none))
                    self.check_alike(papers[1], tuple(row for row in two if row[2] != scale.none))
                    self.assertIsNone(judge_paper(system, told, papers[0]))
                    self.assertIsNone(judge_paper(told, system, papers[1]))
                    leads = firsts_by_words(system, classes_by_words(system, e) if blocks is None else blocks)
                    there = {(x, p): grade for x, p, grade in papers[0]}
                    back = {(p, x): grade for p, x, grade in papers[1]}
                    if e != scale.none:
                        for x, p in leads.items():
                            self.assertTrue(within(scale, e, there[(x, p)]) and within(scale, e, back[(p, x)]))


class ErrorTest(Checks, unittest.TestCase):

    CALLS = (folded, fold_paper, unfold_paper)

    def test_grades(self):
        system = pairs_of_leaders()
        cost = System(CostScale(2), NEXT, ["a"], {"a": "a"})
        for call in self.CALLS:
            for value in any_values():
                if value != "0":
                    self.check_raises(UnknownGrade, call, system, value, name=value)
                    self.check_raises(UnknownGrade, lambda: call(system, value, blocks=3), name=value)
            self.check_raises(NotIdempotent, call, cost, "1", name="1")
            self.check_raises(NotIdempotent, lambda: call(cost, "2", blocks=3), name="2")

    def test_blocks(self):
        system = pairs_of_leaders()
        for call in self.CALLS:
            for value in any_values() + [[["a", "b"], ["x", "y"]], [["a", "b"], ["x", "y"], ["d"], []]]:
                if value is not None:
                    self.check_raises(BadBlocks, lambda: call(system, "2", blocks=value))
            self.check_raises(NotLike, lambda: call(system, "2", blocks=[["d", "y", "x"], ["b", "a"]]), members=("x", "d"))
            with self.assertRaises(TypeError):
                call(system, "2", [["a", "b"], ["x", "y"], ["d"]])

    def test_blocks_are_not_changed_or_kept(self):
        system = likely_system(("forth", NEXT), LEVEL, ODD_NAMES, random.Random(8))
        blocks = [[x] for x in system.states()]
        told = folded(system, "1", blocks=blocks)
        for call in self.CALLS:
            call(system, "1", blocks=blocks)
        self.check_alike(blocks, [[x] for x in system.states()])
        self.assertTrue(share_nothing(blocks, told.states()))
        spoil(blocks)
        self.assertTrue(told == system)

    def test_all_kinds_at_eight_states(self):
        chance = random.Random(9)
        states = list("abcdefgh")
        for kind in kinds(LEVEL):
            system = likely_system(kind, LEVEL, states, chance, 5)
            self.assertIsNone(judge_paper(system, folded(system, "1"), fold_paper(system, "1")))


if __name__ == "__main__":
    unittest.main()
