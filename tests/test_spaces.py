import itertools
import random
import unittest

from neargrades.errors import (
    BadName, BadTable, MixedScales, NotIdempotent, NotSame, NotThrough, TwiceTold, UnknownGrade, UnknownName,
)
from neargrades.residues import idempotent, within
from neargrades.scalemaps import ScaleMap, all_maps
from neargrades.scales import CostScale, LevelScale, SetScale, StopScale, TableScale
from neargrades.spaces import Space, closed_space, led_space, near_classes, space_of
from neargrades.tables import space_table
from tests.samples import Checks, any_values, lawful_scales, one_grade, share_nothing, spoil, table_of, tuples

BAD_WORDS = ["", "A", "a-", "0a", "abcdefghijklm", "a b", " a", "a\n", "\u00e9", "a\u00e9", "_", "1"]


def random_steps(scale, names, chance):
    many = chance.randrange(2 * len(names) + 1) if names else 0
    return [(chance.choice(names), chance.choice(names), chance.choice(scale.grades())) for _ in range(many)]


def sample():
    return Space(CostScale(3), ["c", "a", "b"], [["0", "1", "3"], ["3", "0", "2"], ["1", "1", "0"]])


class SpaceTest(Checks, unittest.TestCase):

    def test_rows_are_read_by_place(self):
        space = sample()
        self.assertEqual(space.names(), ["c", "a", "b"])
        self.assertEqual([[space.near(x, y) for y in "cab"] for x in "cab"],
                         [["0", "1", "3"], ["3", "0", "2"], ["1", "1", "0"]])
        self.assertTrue(space.scale == CostScale(3))
        self.assertEqual(len(space), 3)

    def test_no_names_at_all(self):
        space = Space(CostScale(1), [], [])
        self.assertEqual((space.names(), len(space)), ([], 0))
        self.assertTrue(space == Space(CostScale(1), (), ()))
        self.check_raises(UnknownName, space.near, "a", "b", name="a")

    def test_one_grade(self):
        space = Space(one_grade(), ["a", "b"], [["only", "only"], ["only", "only"]])
        self.assertEqual(space.near("a", "b"), "only")

    def test_words_for_names(self):
        for name in ("a", "z", "abcdefghijkl", "a0123456789z", "z9"):
            self.assertEqual(Space(CostScale(0), [name], [["0"]]).names(), [name])

    def test_bad_names(self):
        for name in any_values() + BAD_WORDS:
            if name == "zz":
                continue
            self.check_raises(BadName, Space, CostScale(1), [name], [["0"]], name=name)
            self.check_raises(BadName, Space, CostScale(1), ["a", "a", name, "B"], None, name=name)
            self.check_raises(BadName, closed_space, CostScale(1), ["a", "a", name, "B"], [("x", "y", "z")], name=name)
            self.check_raises(BadName, space_of, CostScale(1), ("a", "a", name, "B"), None, name=name)

    def test_twice_told(self):
        for names, name in ((["a", "b", "a", "b"], "a"), (["a", "b", "b", "a"], "b"), (("c", "c"), "c")):
            self.check_raises(TwiceTold, Space, CostScale(1), names, None, name=name)
            self.check_raises(TwiceTold, closed_space, CostScale(1), names, [("x", "y", "z")], name=name)
            self.check_raises(TwiceTold, space_of, CostScale(1), names, None, name=name)

    def test_bad_tables(self):
        scale = CostScale(1)
        for rows in any_values() + [[], [["0", "1"]], [["0", "1"], ["1"]], [["0"], ["1", "0"]], [["0", "1"], "10"],
                                    [["0", "1"], None], [["0", "1"], ["1", "0"], ["1", "0"]], ["01", "10"],
                                    [["0", "1", "1"], ["1", "0", "1"]], [["bad", "1"], ["1"]], ({}, {})]:
            self.check_raises(BadTable, Space, scale, ["a", "b"], rows)
        self.check_raises(BadTable, Space, scale, [], [[]])
        self.check_raises(BadTable, Space, scale, [], None)

    def test_unknown_grades(self):
        for value in any_values() + ["2"]:
            if value == "0":
                continue
            self.check_raises(UnknownGrade, Space, CostScale(1), ["a", "b"], [["1", value], ["first", "1"]], name=value)
            self.check_raises(UnknownGrade, Space, CostScale(1), ("a", "b"), (("1", "1"), (value, "x")), name=value)

    def test_not_same(self):
        scale = CostScale(2)
        self.check_raises(NotSame, Space, scale, ["a"], [["1"]], name="a")
        self.check_raises(NotSame, Space, scale, ["b", "a"], [["0", "none"], ["none", "none"]], name="a")
        self.check_raises(NotSame, Space, scale, ["c", "b", "a"], [["0", "0", "2"], ["2", "1", "0"], ["0", "1", "1"]],
                          name="b")

    def test_not_through(self):
        self.check_raises(NotThrough, Space, CostScale(2), ["c", "b", "a"],
                          [["0", "1", "none"], ["1", "0", "1"], ["none", "1", "0"]], members=("c", "b", "a"))
        self.check_raises(NotThrough, Space, CostScale(2), ["a", "b", "c"],
                          [["0", "2", "1"], ["2", "0", "2"], ["2", "0", "0"]], members=("a", "c", "b"))

    def test_by_all_small_tables(self):
        for scale in (CostScale(1), LevelScale(2), SetScale(["a"])):
            for entries in tuples(scale.grades(), 4):
                rows = [entries[:2], entries[2:]]
                names = ["b", "a"]
                near = {(x, y): rows[i][j] for i, x in enumerate(names) for j, y in enumerate(names)}
                unlike = [x for x in names if near[x, x] != scale.nearest]
                broken = [(a, b, c) for a, b, c in tuples(names, 3)
                          if not within(scale, scale.then(near[a, b], near[b, c]), near[a, c])]
                if unlike:
                    self.check_raises(NotSame, Space, scale, names, rows, name=unlike[0])
                elif broken:
                    self.check_raises(NotThrough, Space, scale, names, rows, members=broken[0])
                else:
                    self.assertEqual(Space(scale, names, rows).near("b", "a"), rows[0][1])

    def test_by_random_tables_of_three(self):
        chance = random.Random(3)
        scale, names = StopScale(1), ["c", "a", "b"]
        found = 0
        for _ in range(600):
            rows = [["0" if i == j else chance.choice(scale.grades()) for j in range(3)] for i in range(3)]
            near = {(x, y): rows[i][j] for i, x in enumerate(names) for j, y in enumerate(names)}
            broken = [(a, b, c) for a, b, c in tuples(names, 3)
                      if not within(scale, scale.then(near[a, b], near[b, c]), near[a, c])]
            if broken:
                self.check_raises(NotThrough, Space, scale, names, rows, members=broken[0])
            else:
                found += 1
                self.assertEqual(len(Space(scale, names, rows)), 3)
        self.assertGreater(found, 20)

    def test_unknown_names(self):
        space = sample()
        for value in any_values() + ["d"]:
            self.check_raises(UnknownName, space.near, value, "a", name=value)
            self.check_raises(UnknownName, space.near, "a", value, name=value)
            self.check_raises(UnknownName, space.near, value, "first", name=value)
            self.check_raises(UnknownName, space.near, "first", value, name="first")
            self.assertIs(value in space, False)
        self.assertIs("c" in space, True)
        self.assertIs(("c",) in space, False)

    def test_equal(self):
        space = sample()
        grades, joins, products, none, nearest = table_of(CostScale(3))
        told = TableScale(grades, joins, products, none=none, nearest=nearest)
        rows = [["0", "1", "3"], ["3", "0", "2"], ["1", "1", "0"]]
        self.assertIs(space == Space(told, ("c", "a", "b"), tuple(map(tuple, rows))), True)
        self.assertIs(space != Space(told, ["c", "a", "b"], rows), False)
        others = [Space(StopScale(3), ["c", "a", "b"], [["0", "1", "3"], ["3", "0", "2"], ["1", "1", "0"]]),
                  Space(CostScale(3), ["c", "a", "d"], rows), Space(CostScale(3), ["a", "c", "b"], [
                      ["0", "3", "2"], ["1", "0", "3"], ["1", "1", "0"]]),
                  Space(CostScale(3), ["c", "a", "b"], [["0", "1", "2"], rows[1], rows[2]])]
        for other in others + any_values() + [space.names()]:
            self.assertIs(space == other, False)
            self.assertIs(space != other, True)
        self.assertIs(Space(CostScale(1), [], []) == Space(CostScale(2), [], []), False)
        same = [["0", "1"], ["1", "0"]]
        self.assertIs(Space(CostScale(1), ["a", "b"], same) == Space(StopScale(1), ["a", "b"], same), False)

    def test_nothing_is_kept_or_changed(self):
        names, rows = ["c", "a"], [["0", "1"], ["1", "0"]]
        space = Space(CostScale(1), names, rows)
        self.assertEqual((names, rows), (["c", "a"], [["0", "1"], ["1", "0"]]))
        rows[0][1] = "none"
        spoil([names, rows])
        self.assertTrue(space == Space(CostScale(1), ["c", "a"], [["0", "1"], ["1", "0"]]))
        self.assertTrue(share_nothing(space.names(), space.names()))
        space.names().append("b")
        self.assertEqual(space.names(), ["c", "a"])


class ClosedSpaceTest(Checks, unittest.TestCase):

    def chains(self, scale, names, steps):
        """The nearness by all chains of at most as many steps as there are names."""
        near = {(a, b): scale.nearest if a == b else scale.none for a in names for b in names}
        for count in range(1, len(names) + 1):
            for chain in itertools.product(steps, repeat=count):
                if all(one[1] == two[0] for one, two in zip(chain, chain[1:])):
                    product = scale.nearest
                    for step in chain:
                        product = scale.then(product, step[2])
                    pair = (chain[0][0], chain[-1][1])
                    near[pair] = scale.join(near[pair], product)
        return {pair: grade for pair, grade in near.items() if grade != scale.none}

    def test_by_all_chains(self):
        chance = random.Random(8)
        for scale in lawful_scales():
            for names in ([], ["b"], ["b", "a"], ["c", "b", "a"], ["d", "a", "c", "b"]):
                for _ in range(2):
                    steps = random_steps(scale, names, chance)
                    if len(steps) ** len(names) > 5000:
                        continue
                    space = closed_space(scale, names, steps)
                    self.assertEqual(space.names(), names)
                    self.assertEqual(space_table(space), self.chains(scale, names, steps))

    def test_a_long_chain(self):
        names = ["f", "e", "d", "c", "b", "a"]
        steps = [(names[k], names[k + 1], "1") for k in (3, 1, 4, 0, 2)]
        space = closed_space(CostScale(6), names, steps)
        for i, j in tuples(range(6), 2):
            self.assertEqual(space.near(names[i], names[j]), str(j - i) if i <= j else "none")

    def test_steps_to_oneself_and_several_of_a_pair(self):
        space = closed_space(SetScale(["a", "b"]), ["x", "y"], [("x", "x", "a"), ("x", "y", "a"), ("x", "y", "b")])
        self.assertEqual(space_table(space), {("x", "x"): "ab", ("x", "y"): "ab", ("y", "y"): "ab"})

    def test_it_is_the_least(self):
        chance = random.Random(9)
        for scale in (CostScale(1), LevelScale(2), SetScale(["a"])):
            names = ["b", "a"]
            steps = random_steps(scale, names, chance)
            least = closed_space(scale, names, steps)
            for there, back in tuples(scale.grades(), 2):
                rows = [[scale.nearest, there], [back, scale.nearest]]
                try:
                    space = Space(scale, names, rows)
                except NotThrough:
                    continue
                if all(within(scale, grade, space.near(a, b)) for a, b, grade in steps):
                    for a, b in tuples(names, 2):
                        self.assertTrue(within(scale, least.near(a, b), space.near(a, b)))

    def test_unknown_parts_of_steps(self):
        scale, names = CostScale(1), ["a", "b"]
        for value in any_values() + ["c"]:
            self.check_raises(UnknownName, closed_space, scale, names, [(value, "first", "bad")], name=value)
            self.check_raises(UnknownName, closed_space, scale, names, [("a", "b", "0"), ("a", value, "bad")], name=value)
            self.check_raises(UnknownName, closed_space, scale, names, ((value, "a", "0"), ("a", "a", "x")), name=value)
        for value in any_values() + ["2"]:
            self.check_raises(UnknownGrade, closed_space, scale, names, [("a", "b", value), ("c", "a", "0")], name=value)

    def test_nothing_is_kept_or_changed(self):
        names, steps = ["a", "b"], [("a", "b", "1")]
        space = closed_space(CostScale(1), names, steps)
        self.assertEqual((names, steps), (["a", "b"], [("a", "b", "1")]))
        spoil([names, steps])
        self.assertEqual(space_table(space), {("a", "a"): "0", ("a", "b"): "1", ("b", "b"): "0"})


class SpaceOfTest(Checks, unittest.TestCase):

    def test_back_from_tables(self):
        chance = random.Random(10)
        for scale in lawful_scales():
            for names in ([], ["b"], ["b", "a", "c"]):
                space = closed_space(scale, names, random_steps(scale, names, chance))
                self.assertTrue(space_of(scale, names, space_table(space)) == space)

    def test_other_pairs_are_left_aside(self):
        table = {("x", "a"): "1", ("a", "a"): "0", ("a", "b"): "1", ("b", "b"): "0", ("b", "x"): "0"}
        space = space_of(CostScale(1), ("b", "a"), table)
        self.assertEqual(space_table(space), {("a", "a"): "0", ("a", "b"): "1", ("b", "b"): "0"})
        self.assertEqual(len(table), 5)
        table.clear()
        self.assertEqual(space.near("a", "b"), "1")

    def test_errors_in_their_order(self):
        scale = CostScale(2)
        for value in any_values() + [{"a": "1"}, {("a", "b", "c"): "0"}, {("a", 1): "0"}]:
            if value not in ({}, {("a", "b"): []}):
                self.check_raises(BadTable, space_of, scale, ["a"], value)
        for value in any_values() + ["3"]:
            if value == "0":
                continue
            # Also where the pair is one that is left aside.
            self.check_raises(UnknownGrade, space_of, scale, ["a"], {("x", "y"): value, ("a", "a"): "z"}, name=value)
        self.check_raises(NotSame, space_of, scale, ["b", "a"], {("b", "b"): "0"}, name="a")
        self.check_raises(NotSame, space_of, scale, ["a"], {}, name="a")
        same = {("a", "a"): "0", ("b", "b"): "0", ("c", "c"): "0"}
        self.check_raises(NotThrough, space_of, scale, ["c", "b", "a"], {**same, ("a", "b"): "0", ("b", "c"): "1"},
                          members=("a", "b", "c"))


class NearClassesTest(Checks, unittest.TestCase):

    def test_by_their_words(self):
        chance = random.Random(11)
        for scale in lawful_scales():
            for names in ([], ["b"], ["d", "b", "a", "c"], ["f", "a", "e", "c", "b", "d"]):
                for _ in range(3):
                    space = closed_space(scale, names, random_steps(scale, names, chance) * 2)
                    for e in idempotent(scale):
                        like = {(a, b) for a, b in tuples(names, 2)
                                if within(scale, e, space.near(a, b)) and within(scale, e, space.near(b, a))}
                        wanted = []
                        for name in names:
                            if not any(name in row for row in wanted):
                                wanted.append([other for other in names if (name, other) in like])
                        self.check_alike(near_classes(space, e), wanted)

    def test_both_ways(self):
        scale = StopScale(2)
        space = closed_space(scale, ["c", "b", "a"], [("c", "a", "2"), ("a", "c", "2"), ("c", "b", "0"), ("b", "a", "1")])
        self.assertEqual(near_classes(space, "0"), [["c"], ["b"], ["a"]])
        self.assertEqual(near_classes(space, "2"), [["c", "b", "a"]])
        one_way = closed_space(scale, ["c", "b"], [("c", "b", "0")])
        self.assertEqual(near_classes(one_way, "0"), [["c"], ["b"]])
        back_way = closed_space(scale, ["c", "b"], [("b", "c", "0")])
        self.assertEqual(near_classes(back_way, "0"), [["c"], ["b"]])
        self.assertEqual(near_classes(one_way, "none"), [["c", "b"]])

    def test_errors(self):
        space = closed_space(StopScale(2), ["a"], [])
        for value in any_values() + ["3"]:
            if value == "0":
                continue
            self.check_raises(UnknownGrade, near_classes, space, value, name=value)
        self.check_raises(NotIdempotent, near_classes, space, "1", name="1")
        self.check_raises(NotIdempotent, near_classes, Space(CostScale(3), [], []), "3", name="3")

    def test_new_lists(self):
        space = closed_space(StopScale(2), ["a", "b"], [])
        self.assertTrue(share_nothing(near_classes(space, "0"), near_classes(space, "0")))


class LedSpaceTest(Checks, unittest.TestCase):

    def test_images_of_all_grades(self):
        chance = random.Random(12)
        scales = [CostScale(1), LevelScale(2), StopScale(1), SetScale(["a", "b"])]
        for source in scales:
            for target in scales:
                for m in all_maps(source, target):
                    names = ["c", "a", "b"]
                    space = closed_space(source, names, random_steps(source, names, chance))
                    led = led_space(m, space)
                    self.assertTrue(led.scale == target)
                    self.assertEqual(led.names(), names)
                    for a, b in tuples(names, 2):
                        self.assertEqual(led.near(a, b), m(space.near(a, b)))

    def test_mixed_scales(self):
        m = ScaleMap(LevelScale(1), SetScale(["a"]), ["0", "a"])
        self.check_raises(MixedScales, led_space, m, Space(SetScale(["a"]), ["x"], [["a"]]))
        self.check_raises(MixedScales, led_space, m, Space(LevelScale(2), [], []))
        self.assertEqual(led_space(m, Space(LevelScale(1), ["x"], [["1"]])).near("x", "x"), "a")


if __name__ == "__main__":
    unittest.main()
