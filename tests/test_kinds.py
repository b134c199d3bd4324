import unittest

from neargrades.errors import BadKind
from neargrades.kinds import check_kind, has_next, kind_at, stones
from neargrades.scales import CostScale, LevelScale, StopScale, TableScale
from neargrades.spaces import Space
from tests.kindsamples import hues, kinds, scales
from tests.samples import Checks, any_values, share_nothing, table_of

COST = CostScale(2)
NAMES = ("names", hues(COST))
NEXT = ("next",)


class CheckKindTest(Checks, unittest.TestCase):

    def bad(self, kind, path):
        self.check_raises(BadKind, check_kind, kind, COST, path=path)

    def test_right_kinds(self):
        for scale in scales():
            for kind in kinds(scale):
                self.assertIsNone(check_kind(kind, scale))

    def test_a_space_over_an_equal_scale(self):
        grades, joins, products, none, nearest = table_of(COST)
        told = TableScale(grades, joins, products, none=none, nearest=nearest)
        self.assertIsNone(check_kind(("names", Space(told, [], [])), COST))

    def test_any_value(self):
        for value in any_values() + ["next", COST, hues(COST), ["next"], [NEXT], "names", ("zz",), ("Next",)]:
            self.bad(value, ())
            for word in ("both", "along", "either"):
                self.bad((word, value, NEXT), (0,))
                self.bad((word, NEXT, value), (1,))
                # Each stone ahead of its parts, K ahead of L.
                self.bad((word, ("forth", value), value), (0, 0))
                self.bad((word, ("forth", NEXT), value), (1,))
                self.bad((word, value, NEXT, value), ())
            for word in ("forth", "back", "kept"):
                self.bad((word, value), (0,))
                self.bad((word, ("row", ("a",), ("both", NEXT, value))), (0, 0, 1))
            self.bad(("row", ("a",), value), (0,))
            self.bad(("names", value) if value != hues(COST) else ("names",), ())
            self.bad((value, NEXT, NEXT), ())
            self.bad((value,) if value != "next" else ("next", value), ())

    def test_lengths(self):
        for kind in (("names",), ("names", hues(COST), NEXT), ("next", NEXT), ("next", ()), ("both", NEXT), ("both",),
                     ("along", NEXT, NEXT, NEXT), ("either", NEXT), ("row", ("a",)), ("row", ("a",), NEXT, NEXT),
                     ("row", NEXT), ("forth",), ("forth", NEXT, NEXT), ("back",), ("back", NEXT, NEXT), ("kept",),
                     ("kept", NEXT, None)):
            self.bad(kind, ())
            self.bad(("forth", kind), (0,))
            self.bad(("both", NEXT, ("kept", kind)), (1, 0))

    def test_lists_are_no_stones(self):
        self.bad(["next"], ())
        self.bad(["forth", NEXT], ())
        self.bad(("forth", ["next"]), (0,))
        self.bad(("row", ["a"], NEXT), ())

    def test_letters(self):
        for letters in ((), ("a", "b", "c", "d"), ("a", "a"), ("a", "b", "a"), ("A",), ("",), ("0a",), ("abcdefghijklm",),
                        ("a", "b c"), (None,), (1,), (True,), (("a",),), (["a"],), ({},), "a", "abc", {"a": 1}, None, 3):
            self.bad(("row", letters, NEXT), ())
            # Its own form goes ahead of that of its part.
            self.bad(("row", letters, None), ())
        for letters in (("a",), ("b", "a"), ("abcdefghijkl", "a0", "z")):
            self.assertIsNone(check_kind(("row", letters, NEXT), COST))

    def test_spaces_over_other_scales(self):
        for scale in (CostScale(1), StopScale(2), LevelScale(2)):
            self.bad(("names", hues(scale)), ())
            self.bad(("both", NEXT, ("forth", ("names", hues(scale)))), (1, 0))
            self.bad(("both", ("names", hues(scale)), ("row", (), NEXT)), (0,))
        self.assertIsNone(check_kind(NEXT, COST))

    def test_the_first_of_several(self):
        wrong = ("both", ("kept", ("row", ("a",), None)), ("next", 1))
        self.bad(wrong, (0, 0, 0))
        self.bad(("either", wrong, 3), (0, 0, 0, 0))
        self.bad(("either", NEXT, wrong), (1, 0, 0, 0))
        self.bad(("both", ("both", NEXT, ("both", NEXT, NEXT)), ("both", None, None)), (1, 0))


class PathsTest(Checks, unittest.TestCase):

    KIND = ("both", ("row", ("a", "b"), ("forth", NEXT)), ("either", ("kept", NAMES), ("along", NAMES, ("back", NEXT))))
    STONES = [((), "both"), ((0,), "row"), ((0, 0), "forth"), ((0, 0, 0), "next"), ((1,), "either"), ((1, 0), "kept"),
              ((1, 0, 0), "names"), ((1, 1), "along"), ((1, 1, 0), "names"), ((1, 1, 1), "back"), ((1, 1, 1, 0), "next")]

    def test_stones(self):
        self.check_alike(stones(self.KIND), self.STONES)
        self.check_alike(stones(NEXT), [((), "next")])
        self.check_alike(stones(NAMES), [((), "names")])
        self.assertTrue(share_nothing(stones(NEXT), stones(NEXT)))

    def test_kind_at(self):
        for path, word in self.STONES:
            self.assertEqual(kind_at(self.KIND, path)[0], word)
        self.check_alike(kind_at(self.KIND, ()), self.KIND)
        self.check_alike(kind_at(self.KIND, (0,)), ("row", ("a", "b"), ("forth", NEXT)))
        self.check_alike(kind_at(self.KIND, (1, 1, 1)), ("back", NEXT))
        for scale in scales():
            for kind in kinds(scale):
                for path, word in stones(kind):
                    self.assertEqual(kind_at(kind, path)[0], word)

    def test_paths_that_lead_to_none(self):
        for path in ((2,), (-1,), (0, 1), (0, 0, 1), (0, 0, 0, 0), (1, 0, 0, 0), (1, 1, 2), (0, 0, 0, -1), (0, -1),
                     (7, 0, 0), (1, 1, 1, 0, 0)):
            self.check_raises(BadKind, kind_at, self.KIND, path, path=path)
        self.check_raises(BadKind, kind_at, NEXT, (0,), path=(0,))
        self.check_raises(BadKind, kind_at, NAMES, (0,), path=(0,))

    def test_any_values_in_paths(self):
        for value in any_values():
            if value in (0, 1) and value is not True and value is not False:
                continue
            for path in ((value,), (0, value), (value, 0), (1, 1, value)):
                self.check_raises(BadKind, kind_at, self.KIND, path, path=path)

    def test_has_next(self):
        self.assertIs(has_next(NEXT), True)
        self.assertIs(has_next(NAMES), False)
        self.assertIs(has_next(self.KIND), True)
        self.assertIs(has_next(("both", NAMES, ("forth", NAMES))), False)
        self.assertIs(has_next(("both", NAMES, ("row", ("next",), ("kept", NAMES)))), False)
        self.assertIs(has_next(("either", NAMES, ("back", NEXT))), True)


if __name__ == "__main__":
    unittest.main()
