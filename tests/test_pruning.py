import random
import unittest

from neargrades.errors import UnknownState
from neargrades.pruning import needless, pruned
from neargrades.rounds import nearness
from neargrades.scales import CostScale, LevelScale, SetScale
from neargrades.systems import System, made_system, steps_of
from tests.foldsamples import fold_scales, likely_system, likely_systems, near_table
from tests.kindsamples import hues, kinds
from tests.nearsamples import lift
from tests.samples import Checks, any_values, share_nothing, spoil

COST = CostScale(3)
NEXT = ("next",)


def outer(kind, value, path=()):
    """The (path, kind, set) of all outer sets of a value, by the words of S8.5."""
    word = kind[0]
    if word in ("names", "next"):
        return []
    if word in ("both", "along"):
        return outer(kind[1], value[0], path + (0,)) + outer(kind[2], value[1], path + (1,))
    if word == "either":
        return outer(kind[1 if value[0] == "left" else 2], value[1], path + (0,))
    if word == "row":
        return [told for k, part in enumerate(value) for told in outer(kind[2], part, path + (k,))]
    return [(path, kind, value)]


def as_near(kind, scale, table, one, two):
    return (lift(kind, scale, table, one, two) == scale.nearest == lift(kind, scale, table, two, one))


def needless_by_words(system, x, table):
    told = []
    for path, kind, members in outer(system.kind, system.step(x)):
        for k in range(len(members)):
            if as_near(kind, system.scale, table, members, members[:k] + members[k + 1:]):
                told.append((path, k))
    return told


def is_part(kind, value, elder):
    """Whether a value is an elder one but for members of outer sets that are left out."""
    one, two = outer(kind, value), outer(kind, elder)
    if [row[0] for row in one] != [row[0] for row in two]:
        return False
    parts = all([entry for entry in inner[2] if entry in told[2]] == list(told[2]) for told, inner in zip(one, two))
    return parts and without_sets(kind, value) == without_sets(kind, elder)


def without_sets(kind, value):
    word = kind[0]
    if word in ("names", "next"):
        return value
    if word in ("both", "along"):
        return [without_sets(kind[1], value[0]), without_sets(kind[2], value[1])]
    if word == "either":
        return [value[0], without_sets(kind[1 if value[0] == "left" else 2], value[1])]
    if word == "row":
        return [without_sets(kind[2], part) for part in value]
    return None


class NeedlessTest(Checks, unittest.TestCase):

    def test_examples(self):
        # c and d are like; a leads to both, to c at a lesser cost.
        for word, told in [("forth", [((), 1)]), ("back", [((), 1)]), ("kept", [((), 1)])]:
            system = System(COST, (word, NEXT), ["a", "c", "d"], {"a": [("c", "0"), ("d", "1")], "c": [], "d": []})
            self.check_alike(needless(system, "a"), told)
            self.check_alike(needless(system, "c"), [])
        for word in ("forth", "back", "kept"):
            system = System(COST, (word, NEXT), ["a", "c", "d"], {"a": [("c", "1"), ("d", "1")], "c": [], "d": []})
            self.check_alike(needless(system, "a"), [((), 0), ((), 1)])

    def test_members_that_stand_for_one_another_one_way(self):
        # By forth d is near to c, by back c to d: so c stands for d both times, but d not for c.
        steps = {"a": [("c", "0"), ("d", "0")], "c": [("d", "0")], "d": []}
        self.check_alike(needless(System(COST, ("forth", NEXT), list(steps), steps), "a"), [((), 1)])
        self.check_alike(needless(System(COST, ("back", NEXT), list(steps), steps), "a"), [((), 1)])
        self.check_alike(needless(System(COST, ("kept", NEXT), list(steps), steps), "a"), [])

    def test_several_that_stand_for_one(self):
        scale = SetScale(["p", "q"])
        steps = {"a": [("u", "pq"), ("v", "p"), ("w", "q")], "u": [], "v": [], "w": []}
        system = System(scale, ("kept", NEXT), list(steps), steps)
        self.check_alike(needless(system, "a"), [((), 0), ((), 1), ((), 2)])
        self.check_alike(len(pruned(system).step("a")), 1 if pruned(system).step("a")[0][1] == "pq" else 2)
        steps["a"] = [("u", "pq"), ("v", "p")]
        system = System(scale, ("kept", NEXT), list(steps), steps)
        self.check_alike(needless(system, "a"), [((), 1)])

    def test_places(self):
        kind = ("both", ("either", NEXT, ("row", ("p", "q"), ("kept", NEXT))), ("along", ("kept", NEXT), NEXT))
        twice = [("c", "0"), ("d", "0")]
        system = System(COST, kind, ["a", "c", "d"], {
            "a": (("right", ([], twice)), (twice, "a")), "c": (("left", "c"), ([], "c")), "d": (("left", "c"), ([], "c"))})
        self.check_alike(needless(system, "a"), [((0, 0, 1), 0), ((0, 0, 1), 1), ((1, 0), 0), ((1, 0), 1)])
        self.check_alike(needless(system, "c"), [])

    def test_the_outer_sets_alone(self):
        kind = ("kept", ("kept", NEXT))
        twice = [("c", "0"), ("d", "0")]
        system = System(COST, kind, ["a", "c", "d"], {"a": [(twice, "0")], "c": [], "d": []})
        self.check_alike(needless(system, "a"), [])
        self.assertTrue(pruned(system) == system)
        system = System(COST, kind, ["a", "c", "d"], {"a": [(twice, "0"), (twice[:1], "1")], "c": [], "d": []})
        self.check_alike(needless(system, "a"), [((), 0)])
        self.check_alike(pruned(system).step("a"), (((("c", "0"), ("d", "0")), "0"),))

    def test_by_the_words(self):
        chance = random.Random(1)
        seen = 0
        for system in likely_systems(chance, 4, 6):
            table = near_table(system, system)
            for x in system.states():
                told = needless_by_words(system, x, table)
                self.check_alike(needless(system, x), told)
                seen += len(told)
        self.assertGreater(seen, 60)

    def test_ascending(self):
        for system in likely_systems(random.Random(2), 4, 6):
            for x in system.states():
                told = needless(system, x)
                self.assertEqual(told, sorted(told))

    def test_errors(self):
        system = System(COST, ("forth", NEXT), ["a"], {"a": []})
        for value in any_values():
            self.check_raises(UnknownState, needless, system, value, name=value)
        self.check_raises(UnknownState, needless, System(COST, NEXT, [], {}), "a", name="a")

    def test_new_lists(self):
        system = System(COST, ("forth", NEXT), ["a", "b"], {"a": [("a", "1"), ("b", "1")], "b": [("a", "1"), ("b", "1")]})
        told = needless(system, "a")
        self.assertTrue(share_nothing(told, needless(system, "a")))
        spoil(told)
        self.check_alike(needless(system, "a"), [((), 0), ((), 1)])


class PrunedTest(Checks, unittest.TestCase):

    def test_one_of_two_stays(self):
        for word in ("forth", "back", "kept"):
            system = System(COST, (word, NEXT), ["a", "c", "d"], {"a": [("c", "1"), ("d", "1")], "c": [], "d": []})
            self.assertIn(pruned(system).step("a"), [(("c", "1"),), (("d", "1"),)])

    def test_what_it_promises(self):
        chance = random.Random(3)
        fewer = 0
        for system in likely_systems(chance, 4, 6):
            told = pruned(system)
            table = near_table(system, system)
            self.assertIs(type(told), System)
            self.assertTrue(told.scale == system.scale and told.kind == system.kind)
            self.check_alike(told.states(), system.states())
            for x in system.states():
                self.assertTrue(is_part(system.kind, told.step(x), system.step(x)))
                self.assertTrue(as_near(system.kind, system.scale, table, system.step(x), told.step(x)))
                self.check_alike(needless(told, x), [])
                self.check_alike(needless_by_words(told, x, table), [])
            self.assertEqual(nearness(told, told)[0], table)
            self.assertTrue(pruned(told) == told)
            fewer += steps_of(told) != steps_of(system)
        self.assertGreater(fewer, 10)

    def test_no_states(self):
        for kind in kinds(COST):
            none = System(COST, kind, [], {})
            self.assertTrue(pruned(none) == none)

    def test_eight_states_with_great_sets(self):
        chance = random.Random(4)
        states = list("abcdefgh")
        for scale in fold_scales()[:3]:
            for kind in (("kept", ("both", NEXT, NEXT)), ("forth", ("along", ("names", hues(scale)), ("forth", NEXT)))):
                system = likely_system(kind, scale, states, chance, 60 if kind[0] == "kept" else 25)
                told = pruned(system)
                self.assertTrue(all(needless(told, x) == [] for x in states[:2]))

    def test_all_members_are_like(self):
        system = made_system(LevelScale(2), ("kept", NEXT), list("abcd"), {
            x: [(z, grade) for z, grade in zip("abcd", "1212")] for x in "abcd"})
        told = pruned(system)
        self.check_alike([len(told.step(x)) for x in "abcd"], [1] * 4)
        self.check_alike([told.step(x)[0][1] for x in "abcd"], ["2"] * 4)


if __name__ == "__main__":
    unittest.main()
