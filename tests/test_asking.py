import random
import unittest

from neargrades.asking import nearness_on, nearness_one_by_one, whole_pairs
from neargrades.errors import BadTable, MixedKinds, MixedScales, UnknownState
from neargrades.rounds import nearness
from neargrades.scales import CostScale, StopScale
from neargrades.systems import System, made_system
from tests.kindsamples import kinds
from tests.nearsamples import (
    STATE_NAMES, all_rounds, any_system, couples, lift, look, pairs, random_system, whole,
)
from tests.samples import Checks, any_values, share_nothing, spoil

COST = CostScale(2)
NEXT = ("next",)


def made(kind, steps):
    return made_system(COST, kind, list(steps), steps)


class MixedTest(Checks, unittest.TestCase):

    def test_mixed_scales_and_kinds(self):
        one = any_system()
        for call in (whole_pairs, nearness_on, nearness_one_by_one):
            for rest in ([(3, None)], [("a", "a")]):
                self.check_raises(MixedScales, call, one, System(StopScale(2), NEXT, [], {}), rest)
                self.check_raises(MixedKinds, call, one, System(COST, NEXT, [], {}), rest)


class WholeTest(Checks, unittest.TestCase):

    def test_examples(self):
        one = made(("both", NEXT, NEXT), {"a": ("b", "c"), "b": ("b", "b"), "c": ("c", "c")})
        two = made(("both", NEXT, NEXT), {"x": ("y", "x"), "y": ("y", "y")})
        self.check_alike(whole_pairs(one, two, [("a", "x")]), [("a", "x"), ("b", "y"), ("c", "x"), ("c", "y")])
        self.check_alike(whole_pairs(one, two, [("b", "x")]), [("b", "x"), ("b", "y")])
        self.check_alike(whole_pairs(one, two, [("b", "y"), ("b", "y")]), [("b", "y")])

    def test_sides_that_are_unlike(self):
        one = made(("either", NEXT, NEXT), {"a": ("left", "b"), "b": ("right", "a")})
        self.check_alike(whole_pairs(one, one, [("a", "b")]), [("a", "b")])
        self.check_alike(whole_pairs(one, one, [("b", "b")]), [("a", "a"), ("b", "b")])

    def test_sides_within_sets(self):
        one = made(("forth", ("either", NEXT, NEXT)), {
            "a": [(("left", "b"), "0"), (("right", "c"), "0")], "b": [], "c": []})
        self.check_alike(whole_pairs(one, one, [("a", "a")]), [("a", "a"), ("b", "b"), ("c", "c")])

    def test_letters(self):
        one = made(("row", ("p", "q"), NEXT), {"a": ("b", "c"), "b": ("b", "b"), "c": ("c", "c")})
        self.check_alike(whole_pairs(one, one, [("a", "a")]), [("a", "a"), ("b", "b"), ("c", "c")])

    def test_sets_look_at_all_their_members(self):
        one = made(("back", NEXT), {"a": [("b", "0"), ("c", "2")], "b": [], "c": []})
        self.check_alike(whole_pairs(one, one, [("a", "a")]),
                         [("a", "a"), ("b", "b"), ("b", "c"), ("c", "b"), ("c", "c")])

    def test_no_pairs(self):
        self.check_alike(whole_pairs(any_system(), any_system(), []), [])
        self.check_alike(nearness_on(any_system(), any_system(), ()), ({}, 0))

    def test_by_the_words(self):
        chance = random.Random(1)
        sizes = set()
        for one, two in couples(chance, 5, 4):
            everything = pairs(one, two)
            for count in (0, 1, 2):
                asked = [chance.choice(everything) for _ in range(count if everything else 0)]
                told = whole(one, two, asked)
                shown = list(asked)
                self.check_alike(whole_pairs(one, two, asked), told)
                self.check_alike(whole_pairs(one, two, tuple(asked + asked)), told)
                self.assertEqual(asked, shown)
                sizes.add(len(told))
                steps = all_rounds(one, two, told)
                self.check_alike(nearness_on(one, two, asked), (steps[-1], len(steps) - 1))
                table = nearness(one, two)[0]
                self.assertEqual({pair: table[pair] for pair in told}, steps[-1])
            self.check_alike(whole_pairs(one, two, everything[::-1]), everything)
        self.assertGreater(len(sizes), 10)

    def test_whole_sets_are_whole(self):
        chance = random.Random(2)
        for one, two in couples(chance, 5, 5):
            for pair in pairs(one, two)[:3]:
                told = whole_pairs(one, two, [pair])
                for x, y in told:
                    self.assertLessEqual(look(one.kind, one.step(x), two.step(y)), set(told))

    def test_rounds_of_what_is_asked_may_be_fewer(self):
        one = made(("both", NEXT, ("either", NEXT, NEXT)), {
            "a": ("b", ("left", "a")), "b": ("c", ("left", "a")), "c": ("c", ("right", "c")), "d": ("d", ("left", "d"))})
        self.assertEqual(nearness_on(one, one, [("d", "d")]), ({("d", "d"): "0"}, 0))
        self.assertEqual(nearness_on(one, one, [("c", "d")]), ({("c", "d"): "none"}, 1))
        self.assertGreater(nearness(one, one)[1], 1)

    def test_unknown_states(self):
        one, two = any_system(), System(COST, any_system().kind, ["z", "b"], {"z": ("red", []), "b": ("red", [])})
        for call in (whole_pairs, nearness_on):
            for value in any_values():
                self.check_raises(UnknownState, call, one, two, [("a", "z"), (value, 3), ("d", "z")], name=value)
                self.check_raises(UnknownState, call, one, two, [("a", "z"), ("a", value), ("d", "z")], name=value)
            self.check_raises(UnknownState, call, one, two, [("z", "a")], name="z")
            self.check_raises(UnknownState, call, one, two, (("a", "a"), ("z", "z")), name="a")

    def test_new_lists_and_dicts(self):
        one = any_system()
        shown = repr((whole_pairs(one, one, [("a", "a")]), nearness_on(one, one, [("a", "a")])))
        told = (whole_pairs(one, one, [("a", "a")]), nearness_on(one, one, [("a", "a")]))
        self.assertTrue(share_nothing(told))
        spoil(told)
        self.assertEqual(repr((whole_pairs(one, one, [("a", "a")]), nearness_on(one, one, [("a", "a")]))), shown)


class OneByOneTest(Checks, unittest.TestCase):

    def passes(self, one, two, order):
        table = {pair: one.scale.nearest for pair in pairs(one, two)}
        count = 0
        while True:
            before = dict(table)
            for x, y in order:
                table[(x, y)] = lift(one.kind, one.scale, table, one.step(x), two.step(y))
            if table == before:
                return table, count
            count += 1

    def test_by_the_words(self):
        chance = random.Random(3)
        seen = set()
        for one, two in couples(chance, 4, 4):
            order = pairs(one, two)
            for make in (list, tuple):
                shown = list(order)
                told = nearness_one_by_one(one, two, make(order))
                self.check_alike(told, self.passes(one, two, order))
                self.assertEqual(order, shown)
                table, rounds = nearness(one, two)
                self.check_alike(list(told[0].items()), list(table.items()))
                self.assertLessEqual(told[1], rounds)
                seen.add((told[1], rounds))
                chance.shuffle(order)
        self.assertGreater(len(seen), 5)

    def test_the_order_tells_how_many_passes(self):
        one = made(("both", NEXT, ("either", NEXT, NEXT)), {
            "a": ("b", ("left", "a")), "b": ("c", ("left", "a")), "c": ("d", ("left", "a")), "d": ("d", ("right", "d"))})
        two = made(("both", NEXT, ("either", NEXT, NEXT)), {"z": ("z", ("left", "z"))})
        order = [("a", "z"), ("b", "z"), ("c", "z"), ("d", "z")]
        table = {pair: "none" for pair in order}
        self.check_alike(nearness_one_by_one(one, two, order), (table, 4))
        self.check_alike(nearness_one_by_one(one, two, order[::-1]), (table, 1))
        self.check_alike(nearness(one, two), (table, 4))

    def test_no_states(self):
        none = made(NEXT, {})
        self.check_alike(nearness_one_by_one(none, none, []), ({}, 0))
        self.check_raises(BadTable, nearness_one_by_one, none, none, [("a", "a")])
        self.check_raises(BadTable, nearness_one_by_one, none, none, {})

    def test_wrong_orders(self):
        one = made(NEXT, {"a": "a", "b": "b"})
        order = pairs(one, one)
        self.check_alike(nearness_one_by_one(one, one, order)[1], 0)
        for value in any_values():
            self.check_raises(BadTable, nearness_one_by_one, one, one, value)
            self.check_raises(BadTable, nearness_one_by_one, one, one, order[:3] + [value])
            self.check_raises(BadTable, nearness_one_by_one, one, one, order + [value])
            self.check_raises(BadTable, nearness_one_by_one, one, one, order[:3] + [("b", value)])
            self.check_raises(BadTable, nearness_one_by_one, one, one, [(value, "a")] + order[1:])
        for wrong in [order[:3], order + order[:1], order[:3] + order[:1], order[:3] + [["b", "b"]],
                      order[:3] + [("b", "b", "b")], order[:3] + ["bb"], {pair: "0" for pair in order}, [order], []]:
            self.check_raises(BadTable, nearness_one_by_one, one, one, wrong)

    def test_all_kinds_of_one_system_with_itself(self):
        chance = random.Random(4)
        for kind in kinds(COST):
            one = random_system(kind, COST, STATE_NAMES, chance)
            order = pairs(one, one)
            chance.shuffle(order)
            table = nearness_one_by_one(one, one, order)[0]
            self.check_alike(table, nearness(one, one)[0])
            self.assertTrue(all(table[(x, x)] == "0" for x in STATE_NAMES))


if __name__ == "__main__":
    unittest.main()
