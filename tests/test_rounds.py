import itertools
import random
import unittest

from neargrades.errors import BadTable, MixedKinds, MixedScales, UnknownGrade, UnknownState
from neargrades.residues import height, within
from neargrades.rounds import first_open, first_table, near, nearness, round_below, round_of, stepped, tables
from neargrades.scales import CostScale, LevelScale, SetScale, StopScale, TableScale
from neargrades.spaces import Space, closed_space
from neargrades.systems import System, both_side, made_system, summed
from tests.kindsamples import kinds, random_data
from tests.nearsamples import (
    ODD_NAMES, STATE_NAMES, all_rounds, any_system, couples, go_round, lift, pairs, random_system, random_table,
)
from tests.samples import Checks, any_values, one_grade, share_nothing, spoil, table_of

COST = CostScale(2)
NEXT = ("next",)
COUPLE_CALLS = [  # each function that is handed two systems, with wrong arguments behind them
    (stepped, (None, 3, [])), (first_table, ()), (round_of, (None,)), (tables, (1,)), (nearness, ()),
    (near, (None, 3)), (first_open, (None,)), (round_below, (None, 3, [])),
]


def counter(size, last="none"):
    """States each of which leads to the next one; the last one has another name."""
    scale = CostScale(2)
    space = Space(scale, ["p", "q"], [["0", last], [last, "0"]])
    states = [f"s{k}" for k in range(size)]
    return System(scale, ("both", ("names", space), NEXT), states, {
        states[k]: ("q" if k == size - 1 else "p", states[min(k + 1, size - 1)]) for k in range(size)})


class MixedTest(Checks, unittest.TestCase):

    def test_mixed_scales_and_kinds(self):
        one = any_system()
        other_kind = System(one.scale, ("forth", NEXT), [], {})
        other_scale = System(StopScale(2), NEXT, [], {})
        for call, rest in COUPLE_CALLS:
            self.check_raises(MixedScales, call, one, other_scale, *rest)
            self.check_raises(MixedScales, call, other_scale, one, *rest)
            self.check_raises(MixedKinds, call, one, other_kind, *rest)

    def test_the_same_scale_made_otherwise(self):
        grades, joins, products, none, nearest = table_of(COST)
        same = TableScale(grades, joins, products, none=none, nearest=nearest)
        self.assertEqual(nearness(any_system(), any_system(same)), nearness(any_system(), any_system()))


class SteppedTest(Checks, unittest.TestCase):

    def test_by_the_words(self):
        chance = random.Random(1)
        for one, two in couples(chance):
            table = random_table(one, two, chance, 0.8)
            shown = repr(table)
            for x, y in pairs(one, two):
                told = stepped(one, two, table, x, y)
                self.check_alike(told, lift(one.kind, one.scale, table, one.step(x), two.step(y)))
            self.check_alike(round_of(one, two, table), {
                (x, y): stepped(one, two, table, x, y) for x, y in pairs(one, two)})
            self.assertEqual(repr(table), shown)

    def test_unknown_states(self):
        one, two = any_system(), System(COST, any_system().kind, ["z"], {"z": ("red", [])})
        for value in any_values():
            self.check_raises(UnknownState, stepped, one, two, None, value, 3, name=value)
            if value != "zz":
                self.check_raises(UnknownState, stepped, one, two, None, "a", value, name=value)
        self.check_raises(UnknownState, stepped, one, two, None, "z", "a", name="z")
        self.check_raises(UnknownState, stepped, one, two, None, "a", "a", name="a")

    def test_wrong_tables(self):
        one, two = any_system(), System(COST, any_system().kind, ["z"], {"z": ("red", [])})
        for call, rest in [(stepped, ("a", "z")), (round_of, ()), (first_open, ())]:
            for value in any_values():
                if not isinstance(value, dict) or value:
                    self.check_raises(BadTable, call, one, two, value, *rest)
                self.check_raises(BadTable, call, one, two, {("a", "z"): value, ("z", "a"): "0"}, *rest)
                self.check_raises(UnknownGrade, call, one, two,
                                  {("c", "z"): "0", ("a", "z"): value, ("b", "z"): "9"}, *rest, name=value)
            for key in [("a",), ("a", "z", "z"), "az", None, 1, ("a", "a"), ("z", "z"), ("a", True), (("a",), "z")]:
                self.check_raises(BadTable, call, one, two, {("a", "z"): None, key: "0"}, *rest)


class TablesTest(Checks, unittest.TestCase):

    def test_first_table(self):
        chance = random.Random(2)
        for one, two in couples(chance):
            self.check_alike(first_table(one, two), {pair: one.scale.nearest for pair in pairs(one, two)})

    def test_rounds_by_the_words(self):
        chance = random.Random(3)
        most = 0
        for one, two in couples(chance, 4, 4):
            told = all_rounds(one, two)
            rounds = len(told) - 1
            most = max(most, rounds)
            self.check_alike(nearness(one, two), (told[-1], rounds))
            self.assertLessEqual(rounds, height(one.scale) * len(one) * len(two))
            for count in (0, 1, rounds, rounds + 2):
                self.check_alike(tables(one, two, count), (told + [told[-1]] * 2)[:count + 1])
        self.assertGreater(most, 3)

    def test_sixty_rounds(self):
        told = tables(counter(5), counter(4), 60)
        self.assertEqual(len(told), 61)
        self.check_alike(told[60], nearness(counter(5), counter(4))[0])
        self.assertNotEqual(told[1], told[2])

    def test_tables_have_all_pairs_in_order(self):
        one, two = counter(3), counter(2)
        table, rounds = nearness(one, two)
        self.check_alike(list(table.items()), [
            (("s0", "s0"), "none"), (("s0", "s1"), "none"), (("s1", "s0"), "0"), (("s1", "s1"), "none"),
            (("s2", "s0"), "none"), (("s2", "s1"), "0")])
        self.assertEqual(rounds, 2)

    def test_no_states(self):
        none = System(COST, any_system().kind, [], {})
        for one, two in [(none, none), (none, any_system()), (any_system(), none)]:
            self.check_alike(first_table(one, two), {})
            self.check_alike(round_of(one, two, {}), {})
            self.check_alike(tables(one, two, 2), [{}, {}, {}])
            self.check_alike(nearness(one, two), ({}, 0))
            self.assertIsNone(first_open(one, two, {}))

    def test_one_grade(self):
        for kind in kinds(one_grade()):
            system = random_system(kind, one_grade(), STATE_NAMES, random.Random(8))
            self.assertEqual(nearness(system, system)[1], 0)
            self.assertIsNone(round_below(system, system, "a", "b", "only"))
            self.assertIsNone(first_open(system, system, {("a", "b"): "only"}))

    def test_new_dicts(self):
        one = any_system()
        told = tables(one, one, 3)
        self.assertTrue(share_nothing(told, nearness(one, one), first_table(one, one), nearness(one, one)))
        shown = repr(told)
        for value in (tables(one, one, 3), nearness(one, one), first_table(one, one), round_of(one, one, {})):
            spoil(value)
        self.assertEqual(repr(tables(one, one, 3)), shown)

    def test_the_greatest_closed_table(self):
        chance = random.Random(4)
        for scale in [CostScale(0), CostScale(1), LevelScale(2), SetScale(["p", "q"]), one_grade()]:
            for kind in kinds(scale):
                one = random_system(kind, scale, ["a", "b"], chance)
                two = random_system(kind, scale, ["x", "y"], chance)
                closed = []
                for grades in itertools.product(scale.grades(), repeat=4):
                    table = dict(zip(pairs(one, two), grades))
                    further = go_round(one, two, table)
                    wrong = [pair for pair in table if not within(scale, table[pair], further[pair])]
                    self.check_alike(first_open(one, two, table), wrong[0] if wrong else None)
                    if not wrong:
                        closed.append(table)
                greatest = nearness(one, two)[0]
                self.assertIn(greatest, closed)
                for table in closed:
                    self.assertTrue(all(within(scale, table[pair], greatest[pair]) for pair in table))

    def test_first_open_where_pairs_are_lacking(self):
        one = counter(2)
        self.assertIsNone(first_open(one, one, {}))
        self.assertIsNone(first_open(one, one, {("s1", "s1"): "0"}))
        self.assertEqual(first_open(one, one, {("s0", "s0"): "0"}), ("s0", "s0"))
        self.assertEqual(first_open(one, one, {("s1", "s0"): "0", ("s0", "s1"): "0"}), ("s0", "s1"))
        self.assertIsNone(first_open(one, one, {("s1", "s0"): "none", ("s1", "s1"): "1"}))


class NearTest(Checks, unittest.TestCase):

    def test_near_is_the_grade_of_nearness(self):
        chance = random.Random(5)
        for one, two in couples(chance, 4, 3):
            table = all_rounds(one, two)[-1]
            for x, y in pairs(one, two):
                self.check_alike(near(one, two, x, y), table[(x, y)])

    def test_unknown_states(self):
        one, two = counter(3), counter(2)
        for call, rest in [(near, ()), (round_below, ("9",))]:
            for value in any_values():
                self.check_raises(UnknownState, call, one, two, value, 3, *rest, name=value)
                self.check_raises(UnknownState, call, one, two, "s2", value, *rest, name=value)
            self.check_raises(UnknownState, call, one, two, "s2", "s2", *rest, name="s2")
            self.check_raises(UnknownState, call, two, one, "s2", "s2", *rest, name="s2")

    def test_round_below_by_the_words(self):
        chance = random.Random(6)
        seen = set()
        for one, two in couples(chance, 4, 3):
            told = all_rounds(one, two)
            for x, y in pairs(one, two):
                for grade in one.scale.grades():
                    gone = [k for k in range(len(told)) if not within(one.scale, grade, told[k][(x, y)])]
                    self.check_alike(round_below(one, two, x, y, grade), gone[0] if gone else None)
                    seen.add(gone[0] if gone else None)
        self.assertTrue({None, 1, 2, 3} <= seen)
        self.assertNotIn(0, seen)

    def test_round_below_unknown_grades(self):
        one = counter(2)
        for value in any_values():
            if value != "0":
                self.check_raises(UnknownGrade, round_below, one, one, "s0", "s1", value, name=value)
        self.assertIsNone(round_below(one, one, "s0", "s1", "none"))
        self.assertIsNone(round_below(one, one, "s0", "s0", "0"))
        self.assertEqual(round_below(one, one, "s0", "s1", "2"), 1)

    def test_round_below_goes_through_many_rounds(self):
        one, two = counter(6), counter(5)
        self.assertEqual([round_below(one, two, f"s{k}", f"s{k}", "2") for k in range(5)], [5, 4, 3, 2, 1])
        self.assertEqual(nearness(one, two)[1], 5)


class SizeTest(Checks, unittest.TestCase):
    """Answers at the sizes that callers have; how long they take is seen by running them."""

    def test_eight_states_with_large_steps(self):
        chance = random.Random(7)
        scale = CostScale(6)
        states = list("abcdefgh")
        for kind in [("kept", ("both", NEXT, NEXT)), ("back", ("forth", NEXT))]:
            data = [(random_data(kind[1], scale, states, chance, 8), chance.choice(scale.grades())) for _ in range(40)]
            systems = [System(scale, kind, states, {x: chance.sample(data, 28) for x in states}) for _ in "ab"]
            table, rounds = nearness(*systems)
            self.assertIsNone(first_open(*systems, table))
            self.check_alike(tables(*systems, rounds)[-1], table)
            total = summed(*systems)
            pair = ("l.a", "r.a")
            self.check_alike(near(total, total, *pair), table[("a", "a")])

    def test_sixty_four_states(self):
        scale = StopScale(3)
        space = closed_space(scale, ["p", "q"], [("p", "q", "1")])
        kind = ("along", ("names", space), ("forth", NEXT))
        states = list("abcdefgh")
        one = System(scale, kind, states, {
            states[k]: ("p" if k else "q", [(states[(k + 1) % 8], "0")]) for k in range(8)})
        two = System(scale, kind, states, {
            states[k]: ("p" if k % 3 else "q", [(states[(k + 3) % 7], "0"), (states[k], "2")]) for k in range(8)})
        both = both_side(one, two)
        table, rounds = nearness(both, both)
        self.assertEqual(len(table), 64 * 64)
        self.assertGreater(rounds, 0)
        self.assertIsNone(first_open(both, both, table))
        alone = nearness(one, one)[0]
        further = nearness(two, two)[0]
        for x, y in [("a", "b"), ("c", "h")]:
            for z, u in [("a", "b"), ("e", "a")]:
                least = scale.meet(alone[(x, y)], further[(z, u)])
                self.assertTrue(within(scale, least, table[(f"{x},{z}", f"{y},{u}")]))

    def test_states_that_are_no_words(self):
        one = made_system(COST, NEXT, ODD_NAMES, {x: ODD_NAMES[0] for x in ODD_NAMES})
        two = made_system(COST, NEXT, STATE_NAMES, {x: x for x in STATE_NAMES})
        self.check_alike(nearness(one, two), ({pair: "0" for pair in pairs(one, two)}, 0))
        self.assertEqual(near(one, two, "", "a"), "0")


if __name__ == "__main__":
    unittest.main()
