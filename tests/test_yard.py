import random
import unittest

from neargrades.errors import (
    BadDeed, BadKind, BadName, BadValue, Clash, NoState, NotTold, NothingDone, TooMany, TwiceTold, UnknownGrade, UnknownName,
    UnknownState,
)
from neargrades.scales import CostScale, LevelScale
from neargrades.systems import System
from neargrades.yard import Yard
from tests.kindsamples import hues, kinds
from tests.samples import Checks, any_values, caught, share_nothing, spoil
from tests.yardsamples import (
    COST, KIND, NEXT, STATES, PlainYard, Refused, any_yard, grown_yard, plain_call, plain_seen, random_call, seen,
)

RED = ("red", [])
STEP = ("red", ())


class MadeTest(Checks, unittest.TestCase):

    def test_a_new_yard(self):
        yard = any_yard()
        self.check_alike(seen(yard), [
            ["c", "a", "b"], 1, 0, ({}, []), [({}, [])], [], "main", ["main"], [([0], 0)]])
        self.assertTrue(yard.scale == COST)
        self.check_alike(yard.kind, KIND)

    def test_no_states(self):
        yard = any_yard([])
        self.check_alike(yard.states(), [])
        for deed in (("tell", "a", RED), ("drop", "a"), ("claim", "a", "a", "0"), ("withdraw", "a", "a")):
            self.check_raises(UnknownState, yard.do, deed, name="a")
        self.assertEqual(len(yard), 1)

    def test_errors(self):
        self.check_raises(BadKind, Yard, COST, ("both", NEXT, None), ["A", "A"], path=(1,))
        self.check_raises(BadKind, Yard, LevelScale(2), KIND, ["a"], path=(0,))
        for value in any_values():
            if value != "zz":
                self.check_raises(BadName, Yard, COST, NEXT, ["a", value, "a"], name=value)
        self.check_raises(TwiceTold, Yard, COST, NEXT, ["a", "b", "c", "b", "a"], name="b")
        self.check_alike(Yard(COST, NEXT, ("b", "a")).states(), ["b", "a"])

    def test_states_are_not_kept(self):
        states = ["b", "a"]
        yard = Yard(COST, NEXT, states)
        spoil(states)
        spoil(yard.states())
        self.check_alike(yard.states(), ["b", "a"])


class DeedTest(Checks, unittest.TestCase):

    def test_each_deed(self):
        yard = any_yard()
        self.assertEqual(yard.do(("tell", "a", ("red", [("b", "2"), ("c", "1"), ("b", "1"), ("a", "none")]))), 1)
        told = ("red", (("c", "1"), ("b", "1")))
        self.check_alike(yard.now(), ({"a": told}, []))
        self.assertEqual(yard.do(("claim", "b", "a", "1")), 2)
        self.assertEqual(yard.do(("tell", "c", RED)), 3)
        self.assertEqual(yard.do(("claim", "c", "c", "none")), 4)
        self.check_alike(yard.now(), ({"c": STEP, "a": told}, [("c", "c", "none"), ("b", "a", "1")]))
        self.check_alike(list(yard.now()[0]), ["c", "a"])
        self.assertEqual(yard.do(("claim", "b", "a", "0")), 5)
        self.assertEqual(yard.do(("tell", "a", RED)), 6)
        self.assertEqual(yard.do(("withdraw", "c", "c")), 7)
        self.assertEqual(yard.do(("drop", "c")), 8)
        self.check_alike(yard.now(), ({"a": STEP}, [("b", "a", "0")]))
        self.check_alike(yard.log(), [
            (0, ("tell", "a", told)), (1, ("claim", "b", "a", "1")), (2, ("tell", "c", STEP)), (3, ("claim", "c", "c", "none")),
            (4, ("claim", "b", "a", "0")), (5, ("tell", "a", STEP)), (6, ("withdraw", "c", "c")), (7, ("drop", "c"))])
        self.check_alike(yard.moment(3), ({"c": STEP, "a": told}, [("b", "a", "1")]))
        self.check_alike(yard.moment(0), ({}, []))
        self.check_alike((yard.trail("main"), yard.mark("main"), yard.present()), (list(range(9)), 8, 8))

    def test_deeds_that_change_nothing(self):
        yard = any_yard()
        yard.do(("tell", "a", RED))
        yard.do(("claim", "a", "a", "0"))
        self.assertEqual(yard.do(("tell", "a", ("red", [("b", "none")]))), 3)
        self.assertEqual(yard.do(("claim", "a", "a", "0")), 4)
        self.check_alike(yard.moment(4), yard.moment(2))
        self.check_alike(yard.log()[2:], [(2, ("tell", "a", STEP)), (3, ("claim", "a", "a", "0"))])

    def test_order_of_claims(self):
        yard = any_yard()
        for x in "bac":
            for y in "abc":
                yard.do(("claim", x, y, "1"))
        self.check_alike(yard.now()[1], [(x, y, "1") for x in "cab" for y in "cab"])

    def test_what_is_no_deed(self):
        wrong = any_values() + [
            ("tell",), ("tell", "a"), ("tell", "a", RED, RED), ("drop",), ("drop", "a", "b"), ("claim", "a", "b"),
            ("claim", "a", "b", "0", "0"), ("withdraw", "a"), ("withdraw", "a", "b", "0"), ("merge", "main"), ("merge", 0), ("undo",),
            ["drop", "a"], ["tell", "a", RED], "drop", (["drop"], "a"), (("drop",), "a"), (None, "a"), ({}, "a"), (True, "a"),
            ("Drop", "a"), ("drop ", "a"), ({"drop": 1}, "a"), (0, "a"),
        ]
        yard = any_yard()
        yard.do(("tell", "a", RED))
        for deed in wrong:
            self.check_raises(BadDeed, yard.do, deed)
        self.assertEqual(len(yard), 2)

    def test_states(self):
        yard = any_yard()
        for value in any_values():
            for deed in [("tell", value, None), ("drop", value), ("claim", value, value, None), ("withdraw", value, None),
                         ("claim", "a", value, None), ("withdraw", "a", value)]:
                self.check_raises(UnknownState, yard.do, deed, name=value)
        self.check_raises(UnknownState, yard.do, ("claim", "y", "x", "9"), name="y")
        self.assertEqual(len(yard), 1)

    def test_what_stands_behind_the_states(self):
        yard = any_yard()
        for value in any_values():
            path = (0,) if isinstance(value, tuple) and len(value) == 2 else ()
            self.check_raises(BadValue, yard.do, ("tell", "a", value), path=path)
            if value != "0":
                self.check_raises(UnknownGrade, yard.do, ("claim", "a", "b", value), name=value)
        self.check_raises(BadValue, yard.do, ("tell", "a", ("red", [("a", "0"), "x"])), path=(1, 1))
        self.check_raises(UnknownState, yard.do, ("tell", "a", ("red", [("a", "0"), ("x", "9")])), name="x")
        self.check_raises(UnknownGrade, yard.do, ("tell", "a", ("red", [("a", "9"), ("x", "9")])), name="9")
        self.check_raises(NotTold, yard.do, ("drop", "a"), name="a")
        self.check_raises(NotTold, yard.do, ("withdraw", "a", "b"), name=("a", "b"))
        yard.do(("claim", "a", "b", "0"))
        self.check_raises(NotTold, yard.do, ("withdraw", "b", "a"), name=("b", "a"))
        self.assertEqual(len(yard), 2)

    def test_names_of_the_space(self):
        self.assertEqual(type(caught(any_yard().do, ("tell", "a", ("green", [])))).__name__, "UnknownName")

    def test_two_hundred_moments(self):
        yard = any_yard()
        for number in range(1, 200):
            self.assertEqual(yard.do(("claim", "a", "a", "0")), number)
        self.assertEqual(len(yard), 200)
        for deed in (("claim", "a", "a", "0"), ("tell", "a", RED), ("withdraw", "a", "a")):
            self.check_raises(TooMany, yard.do, deed)
        # The bound stands behind all else.
        self.check_raises(BadDeed, yard.do, ("claim",))
        self.check_raises(UnknownState, yard.do, ("drop", "x"), name="x")
        self.check_raises(BadValue, yard.do, ("tell", "a", None), path=())
        self.check_raises(NotTold, yard.do, ("drop", "a"), name="a")
        self.check_raises(NotTold, yard.do, ("withdraw", "b", "a"), name=("b", "a"))
        self.check_raises(UnknownGrade, yard.do, ("claim", "a", "a", "9"), name="9")
        # Undo makes no room.
        yard.undo()
        self.check_raises(TooMany, yard.do, ("claim", "a", "a", "0"))
        self.assertEqual((yard.present(), yard.redo(), len(yard)), (198, 199, 200))


class PlacesTest(Checks, unittest.TestCase):

    def filled(self):
        yard = any_yard()
        for x in STATES:
            yard.do(("tell", x, RED))
        return yard

    def test_undo_and_redo(self):
        yard = self.filled()
        self.check_raises(NothingDone, yard.redo)
        self.assertEqual([yard.undo(), yard.undo(), yard.undo()], [2, 1, 0])
        self.check_raises(NothingDone, yard.undo)
        self.check_alike(yard.now(), ({}, []))
        self.assertEqual([yard.redo(), yard.redo()], [1, 2])
        self.check_alike(list(yard.now()[0]), ["c", "a"])
        self.assertEqual((yard.mark("main"), yard.trail("main"), len(yard)), (2, [0, 1, 2, 3], 4))

    def test_a_new_yard_has_nothing_to_undo(self):
        self.check_raises(NothingDone, any_yard().undo)
        self.check_raises(NothingDone, any_yard().redo)

    def test_deeds_behind_an_undo(self):
        yard = self.filled()
        yard.undo()
        yard.undo()
        self.assertEqual(yard.do(("claim", "a", "a", "1")), 4)
        self.check_alike((yard.trail("main"), yard.mark("main")), ([0, 1, 4], 2))
        self.check_alike(yard.log()[-1], (1, ("claim", "a", "a", "1")))
        self.check_raises(NothingDone, yard.redo)
        # No moment goes away.
        self.check_alike(list(yard.moment(3)[0]), ["c", "a", "b"])

    def test_numbers_of_no_moment(self):
        yard = self.filled()
        for value in any_values() + [4, 200]:
            if isinstance(value, bool) or value not in (0, 1, 3):
                self.check_raises(NoState, yard.moment, value, number=value)

    def test_branches(self):
        yard = self.filled()
        yard.undo()
        self.assertIsNone(yard.branch("side"))
        self.check_alike((yard.here(), yard.branches(), yard.trail("side"), yard.mark("side")), ("main", ["main", "side"], [2], 0))
        self.assertEqual(yard.go("side"), 2)
        self.check_raises(NothingDone, yard.undo)
        self.assertEqual(yard.do(("claim", "a", "a", "1")), 4)
        self.check_alike((yard.trail("side"), yard.trail("main"), yard.mark("main")), ([2, 4], [0, 1, 2, 3], 2))
        self.assertEqual((yard.go("main"), yard.here(), yard.redo(), yard.go("side"), yard.go("side")), (2, "main", 3, 4, 4))
        self.assertEqual((yard.undo(), yard.branch("third"), yard.trail("third")), (2, None, [2]))

    def test_names_of_branches(self):
        yard = self.filled()
        for value in any_values() + ["main"]:
            if value != "zz":
                self.check_raises(BadName, yard.branch, value, name=value)
            for call in (yard.go, yard.trail, yard.mark, yard.merge):
                if value != "main":
                    self.check_raises(UnknownName, call, value, name=value)
        for k in range(5):
            yard.branch(f"b{k}")
        self.check_alike(yard.branches(), ["main", "b0", "b1", "b2", "b3", "b4"])
        self.check_raises(TooMany, yard.branch, "b5")
        self.check_raises(BadName, yard.branch, "b4", name="b4")
        self.check_raises(BadName, yard.branch, "B", name="B")
        self.assertEqual(len(yard.branches()), 6)


class MergeTest(Checks, unittest.TestCase):

    def parted(self, mine, others, before=()):
        """A yard in main behind the deeds before and mine, with a branch other behind those before and others."""
        yard = any_yard()
        for deed in before:
            yard.do(deed)
        yard.branch("other")
        for deed in mine:
            yard.do(deed)
        yard.go("other")
        for deed in others:
            yard.do(deed)
        yard.go("main")
        return yard

    def test_what_does_not_clash(self):
        yard = self.parted(
            [("tell", "a", RED), ("claim", "a", "b", "1"), ("drop", "c")], [("tell", "b", RED), ("claim", "a", "a", "2")],
            [("tell", "c", RED), ("claim", "c", "c", "0"), ("claim", "b", "b", "0")])
        yard.go("other")
        yard.do(("withdraw", "b", "b"))
        yard.go("main")
        self.assertEqual(yard.merge("other"), 10)
        self.check_alike(yard.now(), ({"a": STEP, "b": STEP}, [("c", "c", "0"), ("a", "a", "2"), ("a", "b", "1")]))
        self.check_alike(yard.log()[-1], (6, ("merge", 9)))
        self.check_alike((yard.trail("main"), yard.mark("main")), ([0, 1, 2, 3, 4, 5, 6, 10], 7))
        self.check_alike(yard.trail("other"), [3, 7, 8, 9])

    def test_both_orders(self):
        chance = random.Random(1)
        merged, clashed = 0, 0
        for seed in range(150):
            yard = grown_yard(random.Random(seed), 25)[0]
            names = yard.branches()
            one, two = chance.choice(names), chance.choice(names)
            first, second = yard.twin(), yard.twin()
            first.go(one)
            second.go(two)
            told, other = caught(first.merge, two), caught(second.merge, one)
            if told is not None or other is not None:
                self.assertIs(type(told), Clash)
                self.assertIs(type(other), Clash)
                self.check_alike(told.spots, other.spots)
                clashed += 1
            elif first.log() != yard.log() and second.log() != yard.log():
                self.check_alike(first.now(), second.now())
                merged += 1
        self.assertTrue(merged > 5 and clashed > 5, (merged, clashed))

    def test_elders(self):
        yard = self.parted([("tell", "a", RED)], [])
        self.assertEqual(yard.merge("other"), 1)
        self.assertEqual((len(yard), yard.trail("main")), (2, [0, 1]))
        # The other way round a moment is made.
        yard.go("other")
        self.assertEqual(yard.merge("main"), 2)
        self.check_alike(yard.log(), [(0, ("tell", "a", STEP)), (0, ("merge", 1))])
        self.check_alike(yard.now(), yard.moment(1))
        self.assertEqual(yard.merge("main"), 2)
        self.assertEqual(yard.merge("other"), 2)
        self.assertEqual(len(yard), 3)

    def test_clashes(self):
        blue = ("blue", [])
        yard = self.parted([("tell", "a", RED), ("tell", "b", RED), ("drop", "c")], [("tell", "b", blue), ("tell", "a", blue), (
            "tell", "c", blue)], [("tell", "c", RED)])
        self.check_raises(Clash, yard.merge, "other", spots=(("state", "c"), ("state", "a"), ("state", "b")))
        yard = self.parted(
            [("claim", "b", "a", "1"), ("claim", "a", "b", "1"), ("withdraw", "c", "b")],
            [("claim", "a", "b", "2"), ("claim", "b", "a", "2"), ("claim", "c", "b", "2")], [("claim", "c", "b", "0")])
        self.check_raises(Clash, yard.merge, "other", spots=(("pair", "c", "b"), ("pair", "a", "b"), ("pair", "b", "a")))
        yard = self.parted([("claim", "b", "a", "1"), ("tell", "b", RED)], [("tell", "b", blue), ("claim", "b", "a", "none")])
        before = seen(yard)
        self.check_raises(Clash, yard.merge, "other", spots=(("state", "b"), ("pair", "b", "a")))
        self.check_alike(seen(yard), before)

    def test_the_same_on_both_sides(self):
        yard = self.parted([("tell", "a", RED), ("claim", "a", "a", "1")], [("claim", "a", "a", "1"), ("tell", "a", ("red", ()))])
        self.assertEqual(yard.merge("other"), 5)
        self.check_alike(yard.now(), ({"a": STEP}, [("a", "a", "1")]))
        yard = self.parted([("drop", "a")], [("drop", "a")], [("tell", "a", RED)])
        self.assertEqual(yard.merge("other"), 4)
        self.check_alike(yard.now(), ({}, []))

    def test_undo_and_redo_of_a_merge(self):
        yard = self.parted([("tell", "a", RED)], [("tell", "b", RED)])
        self.assertEqual(yard.merge("other"), 3)
        self.assertEqual((yard.undo(), yard.redo(), yard.undo()), (1, 3, 1))
        self.assertEqual(yard.merge("other"), 4)
        self.check_alike(yard.moment(3), yard.moment(4))
        self.check_alike((yard.trail("main"), yard.log()[2:]), ([0, 1, 4], [(1, ("merge", 2)), (1, ("merge", 2))]))

    def test_crossing_merges(self):
        # The last common elder is the one with the greatest number, also through merges.
        yard = self.parted([("tell", "a", RED)], [("tell", "b", RED)])
        self.assertEqual(yard.merge("other"), 3)
        yard.do(("tell", "c", RED))
        yard.go("other")
        yard.do(("drop", "b"))
        self.assertEqual(yard.merge("main"), 6)
        # 2 is common, 1 is not: b was told in 2, and is told in 4; so it goes.
        self.check_alike(list(yard.now()[0]), ["c", "a"])

    def test_at_the_bound(self):
        yard = self.parted([("tell", "a", RED)], [("tell", "b", RED), ("claim", "b", "b", "0")])
        yard.go("other")
        while len(yard) < 200:
            yard.do(("claim", "a", "a", "1"))
        yard.branch("elder")
        self.assertEqual(yard.merge("elder"), 199)
        yard.go("main")
        self.check_raises(TooMany, yard.merge, "other")
        self.check_raises(UnknownName, yard.merge, "others", name="others")
        self.assertEqual(yard.merge("main"), 1)
        yard.undo()
        self.check_raises(TooMany, yard.merge, "other")
        yard = self.parted([("tell", "a", RED), ("claim", "b", "b", "1")], [("claim", "b", "b", "0")])
        while len(yard) < 200:
            yard.do(("claim", "a", "a", "1"))
        self.check_raises(Clash, yard.merge, "other", spots=(("pair", "b", "b"),))


class WordsTest(Checks, unittest.TestCase):
    """Random calls, and what a second yard, by the words, tells behind each."""

    def check_calls(self, seed, count, scale, kind, states):
        chance = random.Random(seed)
        yard, plain = Yard(scale, kind, states), PlainYard(scale, kind, states)
        errors = set()
        for _ in range(count):
            word, arguments = random_call(yard, chance)
            try:
                told = plain_call(plain, word, arguments)
            except Refused as refused:
                errors.add(refused.error)
                self.check_raises(refused.error, getattr(yard, word), *arguments, **refused.attributes)
            else:
                self.check_alike(getattr(yard, word)(*arguments), told)
            self.check_alike(seen(yard), plain_seen(plain))
        return errors

    def test_random_calls(self):
        errors = set()
        for seed in range(40):
            errors |= self.check_calls(seed, 40, COST, KIND, STATES)
        self.assertTrue({Clash, NotTold, UnknownState, UnknownGrade, NothingDone, BadName, UnknownName} <= errors, errors)

    def test_all_kinds(self):
        for kind in kinds(COST):
            self.check_calls(7, 25, COST, kind, ["b", "a"])

    def test_many_calls(self):
        self.assertIn(TooMany, self.check_calls(3, 450, LevelScale(1), NEXT, list("hgfedcba")))


class TwinTest(Checks, unittest.TestCase):

    def test_they_go_their_own_ways(self):
        yard, plain = grown_yard(random.Random(5), 30)
        twin = yard.twin()
        self.assertIs(type(twin), Yard)
        self.assertTrue(twin == yard and yard == twin)
        self.check_alike(seen(twin), seen(yard))
        twin.do(("claim", "a", "a", "1"))
        self.assertFalse(twin == yard)
        self.check_alike(seen(yard), plain_seen(plain))
        behind = seen(twin)
        yard.do(("tell", "a", RED))
        yard.branch("mine")
        yard.go("mine")
        self.check_alike(seen(twin), behind)
        self.assertTrue(twin.twin() == twin)

    def test_unlike_by_one_thing_alone(self):
        def made(*deeds):
            yard = any_yard()
            for deed in deeds:
                yard.do(deed)
            return yard
        told = ("tell", "a", RED)
        self.assertTrue(any_yard() == any_yard())
        self.assertTrue(made(told) == made(("tell", "a", ("red", [("b", "none")]))))
        other_space = ("both", ("names", hues(CostScale(2))), ("forth", NEXT))
        self.assertTrue(any_yard(kind=other_space) == any_yard())
        for other in (any_yard(["a", "c", "b"]), any_yard(["c", "a"]), any_yard(kind=NEXT), any_yard(kind=NEXT, scale=CostScale(1)),
                      made(told), System(COST, KIND, [], {}), None, "yard", COST):
            self.assertFalse(any_yard() == other)
        self.assertFalse(any_yard(kind=NEXT, scale=CostScale(1)) == any_yard(kind=NEXT))
        self.assertFalse(made(told) == made(("tell", "a", ("blue", []))))
        self.assertFalse(made(told) == made(("tell", "b", RED)))
        # The same moment is present, but the log, a place, a trail, a branch or where one stands is another.
        first = made(told)
        for calls in (["undo"], ["branch", "x"], ["branch", "x", "go", "x"], ["do"]):
            other = made(told)
            names = list(calls)
            while names:
                call = names.pop(0)
                arguments = [names.pop(0)] if call in ("branch", "go") else [("tell", "a", RED)] if call == "do" else []
                getattr(other, call)(*arguments)
            self.assertFalse(first == other, calls)
            self.assertFalse(other == first, calls)
        one, two = made(told), made(told)
        for yard, names in ((one, "xy"), (two, "yx")):
            for name in names:
                yard.branch(name)
        self.assertFalse(one == two)
        one, two = made(told, told), made(told, told)
        for yard, name in ((one, "x"), (two, "x")):
            yard.branch(name)
        self.assertTrue(one == two)
        one.go("x")
        self.assertFalse(one == two)
        two.go("x")
        self.assertTrue(one == two)
        # Trails with the same place in another row of numbers.
        one, two = made(told), made(told)
        one.undo()
        one.do(told)
        two.do(told)
        two.undo()
        two.undo()
        two.redo()
        self.assertFalse(one == two)


class SharingTest(Checks, unittest.TestCase):

    def test_nothing_is_kept(self):
        yard = any_yard()
        data = ("red", [("a", "1")])
        yard.do(("tell", "a", data))
        spoil(data)
        self.check_alike(yard.now(), ({"a": ("red", (("a", "1"),))}, []))

    def test_all_that_is_returned_is_new(self):
        yard = grown_yard(random.Random(11), 40)[0]
        calls = [yard.states, yard.now, yard.log, yard.branches, lambda: yard.trail("main"), lambda: yard.moment(1),
                 lambda: yard.moment(len(yard) - 1)]
        before = seen(yard)
        for call in calls:
            told = call()
            self.assertTrue(share_nothing(told, call()))
            spoil(told)
            self.check_alike(seen(yard), before)


if __name__ == "__main__":
    unittest.main()
