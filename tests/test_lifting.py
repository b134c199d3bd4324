import random
import unittest

from neargrades.errors import BadTable, UnknownGrade
from neargrades.lifting import lifted
from neargrades.scales import CostScale, LevelScale, PairScale, SetScale, StopScale, TableScale
from neargrades.spaces import Space
from neargrades.values import value_of
from tests.kindsamples import hues, kinds, random_data, scales
from tests.nearsamples import ODD_NAMES, STATE_NAMES, lift
from tests.samples import Checks, any_values, one_grade, table_of

COST = CostScale(3)
NEXT = ("next",)
TABLE = {("a", "x"): "1", ("a", "y"): "none", ("b", "x"): "0", ("b", "y"): "2"}


def near(kind, v, w, table=TABLE, scale=COST):
    return lifted(kind, scale, table, v, w)


class LiftedTest(Checks, unittest.TestCase):

    def test_names(self):
        space = Space(COST, ["p", "q"], [["0", "2"], ["3", "0"]])
        self.assertEqual(near(("names", space), "p", "q"), "2")
        self.assertEqual(near(("names", space), "q", "p", {}), "3")

    def test_next(self):
        self.assertEqual(near(NEXT, "a", "x"), "1")
        self.assertEqual(near(NEXT, "a", "y"), "none")
        self.assertEqual(near(NEXT, "x", "a"), "none")
        self.assertEqual(near(NEXT, "a", "a", {}), "none")

    def test_halves(self):
        self.assertEqual(near(("both", NEXT, NEXT), ("a", "b"), ("x", "y")), "2")
        self.assertEqual(near(("along", NEXT, NEXT), ("a", "b"), ("x", "y")), "3")
        self.assertEqual(near(("along", NEXT, NEXT), ("b", "b"), ("y", "y")), "none")

    def test_sides(self):
        kind = ("either", NEXT, ("both", NEXT, NEXT))
        self.assertEqual(near(kind, ("left", "a"), ("left", "x")), "1")
        self.assertEqual(near(kind, ("right", ("a", "b")), ("right", ("x", "x"))), "1")
        self.assertEqual(near(kind, ("left", "a"), ("right", ("x", "x"))), "none")
        self.assertEqual(near(("either", NEXT, NEXT), ("right", "a"), ("left", "x")), "none")

    def test_rows(self):
        self.assertEqual(near(("row", ("p", "q", "r"), NEXT), ("a", "b", "b"), ("x", "x", "y")), "2")
        self.assertEqual(near(("row", ("p",), NEXT), ("a",), ("y",)), "none")

    def test_sets(self):
        v, w = (("a", "0"), ("b", "1")), (("x", "1"), ("y", "0"))
        # a => (1 + 1), b with the cost 1 => (0 + 1) or (2 + 0)
        self.assertEqual(near(("forth", NEXT), v, w), "2")
        # x with the cost 1 => (1 + 0), y => (2 + 1)
        self.assertEqual(near(("back", NEXT), v, w), "3")
        self.assertEqual(near(("kept", NEXT), v, w), "3")

    def test_empty_sets(self):
        v = (("a", "0"),)
        for kind, told in [("forth", ("0", "0", "none")), ("back", ("0", "none", "0")), ("kept", ("0", "none", "none"))]:
            self.assertEqual((near((kind, NEXT), (), ()), near((kind, NEXT), (), (("x", "0"),)),
                              near((kind, NEXT), v, ())), told)

    def test_joins_of_several_members(self):
        scale = SetScale(["p", "q"])
        table = {("a", "x"): "p", ("a", "y"): "q"}
        w = (("x", "pq"), ("y", "pq"))
        self.assertEqual(near(("forth", NEXT), (("a", "pq"),), w, table, scale), "pq")
        self.assertEqual(near(("back", NEXT), (("a", "pq"),), w, table, scale), "0")
        self.assertEqual(near(("back", NEXT), (("a", "pq"),), (("x", "q"),), table, scale), "p")

    def test_by_the_words_of_the_document(self):
        chance = random.Random(1)
        many = scales() + [StopScale(2), SetScale(["a", "b", "c"]), LevelScale(3), PairScale(StopScale(1), LevelScale(1))]
        seen = set()
        for scale in many:
            for kind in kinds(scale):
                for _ in range(12):
                    v = value_of(kind, scale, STATE_NAMES, random_data(kind, scale, STATE_NAMES, chance))
                    w = value_of(kind, scale, ODD_NAMES, random_data(kind, scale, ODD_NAMES, chance))
                    table = {(x, y): chance.choice(scale.grades() + [scale.nearest] * 3)
                             for x in STATE_NAMES for y in ODD_NAMES if chance.random() < 0.9}
                    told = lifted(kind, scale, table, v, w)
                    self.check_alike(told, lift(kind, scale, table, v, w))
                    seen.add((kind[0], told))
        self.assertGreater(len(seen), 60)

    def test_other_keys_and_no_keys(self):
        table = {("", "zz"): "1", ("a", "x"): "2"}
        self.assertEqual(near(("forth", NEXT), (("a", "0"),), (("x", "0"),), table), "2")
        self.assertEqual(table, {("", "zz"): "1", ("a", "x"): "2"})

    def test_one_grade(self):
        scale = one_grade()
        self.assertEqual(lifted(("either", NEXT, NEXT), scale, {}, ("left", "a"), ("right", "a")), "only")

    def test_scales_told_otherwise(self):
        grades, joins, products, none, nearest = table_of(COST)
        same = TableScale(grades, joins, products, none=none, nearest=nearest)
        self.assertEqual(lifted(("forth", NEXT), same, TABLE, (("a", "0"),), (("x", "1"),)), "2")

    def test_wrong_tables(self):
        for value in any_values():
            if not isinstance(value, dict):
                self.check_raises(BadTable, near, NEXT, "a", "x", value)
            self.check_raises(BadTable, near, NEXT, "a", "x", {("a", "x"): value, "a": "0"})
            self.check_raises(UnknownGrade, near, NEXT, "a", "x", {("b", "x"): "0", ("a", "x"): value, ("c", "c"): "9"},
                              name=value)
        for key in [("a",), ("a", "b", "c"), "ab", 3, None, ("a", 1), (True, "b"), (), (("a", "b"), "c")]:
            self.check_raises(BadTable, near, NEXT, "a", "x", {("a", "x"): "9", key: "0"})
        self.assertEqual(near(("names", hues(COST)), "red", "red", {}), "0")


if __name__ == "__main__":
    unittest.main()
