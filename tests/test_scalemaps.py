import unittest

from neargrades.errors import BadImages, MixedScales, NotKept, UnknownGrade
from neargrades.scalemaps import ScaleMap, all_maps, keeps_only
from neargrades.scales import CostScale, LevelScale, PairScale, SetScale, StopScale, TableScale
from tests.samples import Checks, any_values, diamond, one_grade, share_nothing, small_scales, spoil, table_of, tuples


def fault_of(source, target, images):
    """What NotKept tells, by the words of the document."""
    grades = source.grades()
    m = dict(zip(grades, images))
    if m[source.none] != target.none:
        return ("none", ())
    if m[source.nearest] != target.nearest:
        return ("nearest", ())
    for part, act, led in (("join", source.join, target.join), ("product", source.then, target.then)):
        for a, b in tuples(grades, 2):
            if m[act(a, b)] != led(m[a], m[b]):
                return (part, (a, b))
    return None


class ScaleMapTest(Checks, unittest.TestCase):

    def test_a_map(self):
        m = ScaleMap(CostScale(1), LevelScale(1), ["1", "0", "0"])
        self.assertEqual([m(grade) for grade in ("0", "1", "none")], ["1", "0", "0"])
        self.assertEqual(m.images(), ["1", "0", "0"])
        self.assertTrue(m.source == CostScale(1))
        self.assertTrue(m.target == LevelScale(1))

    def test_images_belong_to_the_caller(self):
        images = ["1", "0", "0"]
        m = ScaleMap(CostScale(1), LevelScale(1), images)
        self.assertEqual(images, ["1", "0", "0"])
        spoil(images)
        self.assertTrue(share_nothing(m.images(), m.images()))
        m.images().append("x")
        self.assertEqual(m.images(), ["1", "0", "0"])
        self.assertTrue(m == ScaleMap(CostScale(1), LevelScale(1), ("1", "0", "0")))

    def test_bad_images(self):
        for images in any_values() + [["1", "0"], ["1", "0", "0", "0"], (), ("1",), "100", {"1": 0, "0": 1, "x": 2}]:
            self.check_raises(BadImages, ScaleMap, CostScale(1), LevelScale(1), images)

    def test_unknown_images(self):
        for value in any_values() + ["none", "2"]:
            if value == "0":
                continue
            self.check_raises(UnknownGrade, ScaleMap, CostScale(1), LevelScale(1), ["1", "0", value], name=value)
            self.check_raises(UnknownGrade, ScaleMap, CostScale(1), LevelScale(1), [value, "first", "x"], name=value)
            self.check_raises(UnknownGrade, ScaleMap, CostScale(1), LevelScale(1), ("0", "first", value), name="first")

    def test_not_kept_in_its_order(self):
        source, target = LevelScale(2), LevelScale(2)
        self.check_raises(NotKept, ScaleMap, source, target, ["1", "0", "1"], part="none", members=())
        self.check_raises(NotKept, ScaleMap, source, target, ["0", "2", "1"], part="nearest", members=())
        self.check_raises(NotKept, ScaleMap, diamond(), target, ["0", "1", "1", "2"], part="join", members=("p", "q"))
        self.check_raises(NotKept, ScaleMap, StopScale(1), CostScale(1), ["0", "1", "none"], part="product",
                          members=("1", "1"))

    def test_all_ways_to_choose_images(self):
        found = set()
        scales = [scale for scale in small_scales() if len(scale) <= 4]
        for source in scales:
            for target in scales:
                for images in tuples(target.grades(), len(source)):
                    fault = fault_of(source, target, images)
                    if fault is None:
                        self.assertEqual(ScaleMap(source, target, list(images)).images(), list(images))
                    else:
                        found.add(fault[0])
                        self.check_raises(NotKept, ScaleMap, source, target, images, part=fault[0], members=fault[1])
        self.assertEqual(found, {"none", "nearest", "join", "product"})

    def test_joins_go_ahead_of_products(self):
        # Fails for the product of the first two grades, and for a later join.
        target = TableScale(["0", "1", "2"], [list("012"), list("112"), list("222")],
                            [list("000"), list("000"), list("012")], none="0", nearest="2")
        self.check_raises(NotKept, ScaleMap, diamond(), target, ["0", "1", "1", "2"], part="join", members=("p", "q"))
        self.check_raises(NotKept, ScaleMap, LevelScale(2), target, ["0", "1", "2"], part="product", members=("1", "1"))

    def test_unknown_grades(self):
        m = ScaleMap.same(CostScale(1))
        for value in any_values() + ["2"]:
            self.check_raises(UnknownGrade, m, value, name=value)
        lead = ScaleMap(SetScale(["a"]), LevelScale(1), ["0", "1"])
        self.assertEqual(lead("a"), "1")
        self.check_raises(UnknownGrade, lead, "1", name="1")

    def test_same(self):
        for scale in small_scales():
            m = ScaleMap.same(scale)
            self.assertEqual(m.images(), scale.grades())
            self.assertTrue(m.source == scale and m.target == scale)

    def test_one_grade(self):
        self.assertEqual(ScaleMap(one_grade("a"), one_grade("b"), ["b"]).images(), ["b"])
        self.assertEqual(ScaleMap(LevelScale(1), one_grade(), ["only", "only"])("0"), "only")
        self.check_raises(NotKept, ScaleMap, one_grade(), LevelScale(1), ["0"], part="nearest", members=())
        self.check_raises(NotKept, ScaleMap, one_grade(), LevelScale(1), ["1"], part="none", members=())


class BehindTest(Checks, unittest.TestCase):

    def test_one_behind_the_other(self):
        first = ScaleMap(CostScale(1), LevelScale(2), ["2", "0", "0"])
        second = ScaleMap(LevelScale(2), SetScale(["a"]), ["0", "a", "a"])
        both = first >> second
        self.assertEqual(both.images(), ["a", "0", "0"])
        self.assertTrue(both.source == CostScale(1))
        self.assertTrue(both.target == SetScale(["a"]))

    def test_for_all_maps(self):
        scales = [LevelScale(1), LevelScale(2), CostScale(1), diamond()]
        for source in scales:
            for middle in scales:
                for target in scales:
                    for m in all_maps(source, middle):
                        for n in all_maps(middle, target):
                            self.assertEqual((m >> n).images(), [n(m(grade)) for grade in source.grades()])

    def test_same_changes_nothing(self):
        m = ScaleMap(CostScale(1), LevelScale(2), ["2", "0", "0"])
        self.assertTrue(ScaleMap.same(m.source) >> m == m)
        self.assertTrue(m >> ScaleMap.same(m.target) == m)

    def test_mixed_scales(self):
        m = ScaleMap.same(LevelScale(1))
        n = ScaleMap.same(SetScale(["a"]))
        self.check_raises(MixedScales, lambda: m >> n)
        self.check_raises(MixedScales, lambda: n >> m)
        # Scales are the same whatever they were made by.
        grades, joins, products, none, nearest = table_of(LevelScale(1))
        told = ScaleMap.same(TableScale(grades, joins, products, none=none, nearest=nearest))
        self.assertTrue(m >> told == m)

    def test_only_maps_stand_behind_maps(self):
        for value in any_values():
            with self.assertRaises(TypeError):
                ScaleMap.same(LevelScale(1)) >> value


class EqualTest(unittest.TestCase):

    def test_equal(self):
        m = ScaleMap(LevelScale(2), LevelScale(1), ["0", "1", "1"])
        self.assertIs(m == ScaleMap(LevelScale(2), LevelScale(1), ("0", "1", "1")), True)
        self.assertIs(m != ScaleMap(LevelScale(2), LevelScale(1), ("0", "1", "1")), False)
        self.assertIs(m == ScaleMap(LevelScale(2), LevelScale(1), ["0", "0", "1"]), False)
        self.assertIs(m == ScaleMap(LevelScale(2), LevelScale(2), ["0", "1", "2"]), False)
        for value in any_values() + [m.images()]:
            self.assertIs(m == value, False)

    def test_unequal_by_the_source_alone(self):
        turned = TableScale(["1", "0"], [["1", "1"], ["1", "0"]], [["1", "0"], ["0", "0"]], none="0", nearest="1")
        one = ScaleMap(LevelScale(1), one_grade(), ["only", "only"])
        self.assertIs(one == ScaleMap(turned, one_grade(), ["only", "only"]), False)

    def test_unequal_by_the_target_alone(self):
        one = ScaleMap(LevelScale(1), LevelScale(1), ["0", "1"])
        wide = TableScale(["0", "1", "x"], [list("01x"), list("111"), list("x1x")],
                          [list("000"), list("01x"), list("0xx")], none="0", nearest="1")
        self.assertEqual(ScaleMap(LevelScale(1), wide, ["0", "1"]).images(), one.images())
        self.assertIs(one == ScaleMap(LevelScale(1), wide, ["0", "1"]), False)


class AllMapsTest(unittest.TestCase):

    def test_by_all_ways_to_choose(self):
        for source in small_scales():
            for target in small_scales():
                if len(target) ** len(source) > 1500:
                    continue
                told = all_maps(source, target)
                wanted = [list(images) for images in tuples(target.grades(), len(source))
                          if fault_of(source, target, images) is None]
                self.assertEqual([m.images() for m in told], wanted)
                for m in told:
                    self.assertTrue(m.source == source and m.target == target)

    def test_in_the_order_of_the_target(self):
        told = [m.images() for m in all_maps(LevelScale(2), TableScale(
            ["t", "m", "n"], [list("ttt"), list("tmm"), list("tmn")], [list("tmn"), list("mmn"), list("nnn")],
            none="n", nearest="t"))]
        self.assertEqual(told, [["n", "t", "t"], ["n", "m", "t"], ["n", "n", "t"]])

    def test_the_most_that_are_asked_for(self):
        self.assertEqual(len(all_maps(PairScale(LevelScale(3), LevelScale(2)), LevelScale(1))), 5)
        self.assertEqual(len(all_maps(LevelScale(4), LevelScale(4))), 35)

    def test_none_and_new_ones(self):
        self.assertEqual(all_maps(one_grade(), LevelScale(1)), [])
        told = all_maps(LevelScale(1), LevelScale(1))
        told.append(None)
        self.assertEqual(len(all_maps(LevelScale(1), LevelScale(1))), 1)


class KeepsOnlyTest(Checks, unittest.TestCase):

    def test_by_its_words(self):
        found = 0
        for source in small_scales():
            for target in small_scales():
                if len(target) ** len(source) > 1500:
                    continue
                for m in all_maps(source, target):
                    wrong = [(a, b) for a, b in tuples(source.grades(), 2)
                             if m(source.only(a, b)) != target.only(m(a), m(b))]
                    found += 1 if wrong else 0
                    self.check_alike(keeps_only(m), wrong[0] if wrong else None)
        self.assertGreater(found, 10)

    def test_examples(self):
        self.assertIsNone(keeps_only(ScaleMap.same(StopScale(2))))
        m = ScaleMap(LevelScale(2), LevelScale(1), ["0", "0", "1"])
        self.check_alike(keeps_only(m), ("1", "0"))


if __name__ == "__main__":
    unittest.main()
