import random
import unittest

from neargrades.errors import BadTable, UnknownGrade
from neargrades.scalemaps import ScaleMap, all_maps
from neargrades.scales import CostScale, LevelScale, SetScale, StopScale
from neargrades.spaces import Space, closed_space
from neargrades.tables import (
    behind, joined_tables, led_table, met_tables, same_table, space_table, table_within, tables_alike, turned_table,
)
from tests.samples import Checks, any_values, diamond, lawful_scales, one_grade, small_scales

NAMES = ["b", "a", "", "B c"]
PAIRS = [(x, y) for x in NAMES for y in NAMES]
OF_TWO = [behind, joined_tables, met_tables, table_within, tables_alike]


def random_table(scale, chance):
    pairs = [pair for pair in PAIRS if chance.random() < 0.6]
    chance.shuffle(pairs)
    return {pair: chance.choice(scale.grades()) for pair in pairs}


def at(scale, table, x, y):
    return table.get((x, y), scale.none)


def formed(scale, grade_at):
    """A table as it is returned, with the grades that a function tells."""
    return [((x, y), grade_at(x, y)) for x in sorted(NAMES) for y in sorted(NAMES) if grade_at(x, y) != scale.none]


class TablesTest(Checks, unittest.TestCase):

    def each(self):
        chance = random.Random(5)
        for scale in lawful_scales():
            for _ in range(12):
                table, other = random_table(scale, chance), random_table(scale, chance)
                elder = [list(table.items()), list(other.items())]
                yield scale, table, other
                self.assertEqual([list(table.items()), list(other.items())], elder)

    def test_behind(self):
        for scale, table, other in self.each():
            self.check_alike(list(behind(scale, table, other).items()), formed(scale, lambda x, z: scale.joined(
                [scale.then(at(scale, table, x, y), at(scale, other, y, z)) for y in NAMES])))

    def test_behind_by_example(self):
        table = {("x", "y"): "1", ("x", "w"): "2", ("v", "y"): "3"}
        other = {("y", "z"): "2", ("w", "z"): "0", ("y", "u"): "1"}
        self.check_alike(list(behind(CostScale(3), table, other).items()), [(("x", "u"), "2"), (("x", "z"), "2")])

    def test_joined_and_met(self):
        for scale, table, other in self.each():
            self.check_alike(list(joined_tables(scale, table, other).items()), formed(
                scale, lambda x, y: scale.join(at(scale, table, x, y), at(scale, other, x, y))))
            self.check_alike(list(met_tables(scale, table, other).items()), formed(
                scale, lambda x, y: scale.meet(at(scale, table, x, y), at(scale, other, x, y))))

    def test_turned(self):
        for scale, table, _ in self.each():
            self.check_alike(list(turned_table(scale, table).items()), formed(
                scale, lambda x, y: at(scale, table, y, x)))

    def test_within_and_alike(self):
        answers = set()
        for scale, table, other in self.each():
            for left, right in ((table, other), (table, table), (met_tables(scale, table, other), table),
                                (table, joined_tables(scale, table, other)), (table, {}), ({}, table)):
                pairs = [(at(scale, left, x, y), at(scale, right, x, y)) for x, y in PAIRS]
                told = table_within(scale, left, right)
                self.assertIs(told, all(scale.join(a, b) == b for a, b in pairs))
                same = tables_alike(scale, left, right)
                self.assertIs(same, all(a == b for a, b in pairs))
                answers.add((told, same))
        self.assertEqual(answers, {(True, True), (True, False), (False, False)})

    def test_alike_whatever_stands_in_them(self):
        scale = LevelScale(1)
        self.assertIs(tables_alike(scale, {("a", "b"): "0"}, {}), True)
        self.assertIs(tables_alike(scale, {}, {("a", "b"): "0"}), True)
        self.assertIs(tables_alike(scale, {("a", "b"): "1", ("b", "a"): "1"}, {("b", "a"): "1", ("a", "b"): "1"}), True)
        self.assertIs(tables_alike(scale, {}, {("a", "b"): "1"}), False)
        self.assertIs(table_within(scale, {("a", "b"): "0"}, {}), True)
        self.assertIs(table_within(scale, {("a", "b"): "1"}, {("b", "a"): "1"}), False)

    def test_led(self):
        chance = random.Random(6)
        for source in small_scales():
            for target in small_scales():
                if len(target) ** len(source) > 700:
                    continue
                for m in all_maps(source, target):
                    table = random_table(source, chance)
                    self.check_alike(list(led_table(m, table).items()), formed(
                        target, lambda x, y: m(at(source, table, x, y))))

    def test_led_leaves_out_what_is_none_in_the_target(self):
        m = ScaleMap(LevelScale(2), SetScale(["a"]), ["0", "0", "a"])
        table = {("x", "y"): "2", ("a", "b"): "1", ("c", "b"): "0", ("b", "c"): "2"}
        self.check_alike(list(led_table(m, table).items()), [(("b", "c"), "a"), (("x", "y"), "a")])

    def test_same(self):
        for scale in lawful_scales():
            told = same_table(scale, NAMES)
            self.check_alike(list(told.items()), formed(scale, lambda x, y: scale.nearest if x == y else scale.none))
        self.assertEqual(same_table(one_grade(), ["a"]), {})
        self.assertEqual(same_table(CostScale(1), []), {})
        self.check_alike(list(same_table(CostScale(1), ("b", "a", "b")).items()), [(("a", "a"), "0"), (("b", "b"), "0")])

    def test_space(self):
        scale = CostScale(3)
        space = closed_space(scale, ["c", "a", "b"], [("c", "a", "1"), ("a", "b", "1"), ("b", "a", "2")])
        self.check_alike(list(space_table(space).items()), [
            (("a", "a"), "0"), (("a", "b"), "1"), (("b", "a"), "2"), (("b", "b"), "0"), (("c", "a"), "1"),
            (("c", "b"), "2"), (("c", "c"), "0")])
        self.assertEqual(space_table(Space(one_grade(), ["a"], [["only"]])), {})
        self.assertEqual(space_table(Space(scale, [], [])), {})

    def test_space_asks_the_space_alone(self):
        class Told:
            scale = StopScale(2)

            def names(self):
                return ["q", "p"]

            def near(self, a, b):
                return {"qq": "0", "pp": "0", "qp": "2", "pq": "none"}[a + b]

        self.check_alike(list(space_table(Told()).items()), [(("p", "p"), "0"), (("q", "p"), "2"), (("q", "q"), "0")])

    def test_one_grade_is_none(self):
        scale = one_grade()
        table = {("a", "b"): "only"}
        for told in (behind(scale, table, table), joined_tables(scale, table, table), met_tables(scale, table, table),
                     turned_table(scale, table), led_table(ScaleMap.same(scale), table)):
            self.assertEqual(told, {})
        self.assertIs(tables_alike(scale, table, {}), True)

    def test_any_table(self):
        scale, m, right = CostScale(1), ScaleMap.same(CostScale(1)), {("a", "b"): "1"}
        wrong = [value for value in any_values() if not isinstance(value, dict)] + [
            {"a": "1"}, {("a",): "1"}, {("a", "b", "c"): "1"}, {("a", 1): "1"}, {(None, "b"): "1"}, {1: "1"}, {(): "1"},
            {("a", "b"): "1", ("a", ("b",)): "0"}, {"ab": "1"}, {("a", "b"): "bad", "c": "1"}, [(("a", "b"), "1")],
        ]
        for value in wrong:
            for call in OF_TWO:
                self.check_raises(BadTable, call, scale, value, right)
                self.check_raises(BadTable, call, scale, right, value)
                self.check_raises(BadTable, call, scale, value, {("a", "b"): "bad"})
            self.check_raises(BadTable, turned_table, scale, value)
            self.check_raises(BadTable, led_table, m, value)

    def test_any_grade(self):
        scale, m, right = CostScale(1), ScaleMap.same(CostScale(1)), {("a", "b"): "1"}
        for value in any_values() + ["2"]:
            if value == "0":
                continue
            table = {("z", "z"): "1", ("b", "b"): value, ("a", "a"): "second"}
            for call in OF_TWO:
                self.check_raises(UnknownGrade, call, scale, table, right, name=value)
                self.check_raises(UnknownGrade, call, scale, right, table, name=value)
                self.check_raises(UnknownGrade, call, scale, {("a", "b"): value}, {("a", "b"): "other"}, name=value)
                # All for the first table goes ahead of the other one.
                self.check_raises(UnknownGrade, call, scale, table, None, name=value)
            self.check_raises(UnknownGrade, turned_table, scale, table, name=value)
            self.check_raises(UnknownGrade, led_table, m, table, name=value)

    def test_led_asks_for_grades_of_the_source(self):
        m = ScaleMap(LevelScale(1), SetScale(["a"]), ["0", "a"])
        self.check_raises(UnknownGrade, led_table, m, {("x", "y"): "a"}, name="a")
        self.check_raises(UnknownGrade, led_table, ScaleMap.same(diamond()), {("x", "y"): "1"}, name="1")

    def test_a_new_dict(self):
        scale, m, table = CostScale(1), ScaleMap.same(CostScale(1)), {("a", "b"): "1"}
        for call in (lambda: joined_tables(scale, table, {}), lambda: joined_tables(scale, {}, table),
                     lambda: met_tables(scale, table, table), lambda: led_table(m, table),
                     lambda: behind(scale, table, same_table(scale, ["b"]))):
            told = call()
            self.assertEqual(told, table)
            told.clear()
            self.assertEqual(table, {("a", "b"): "1"})
            self.assertEqual(call(), table)


if __name__ == "__main__":
    unittest.main()
