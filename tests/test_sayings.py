import random
import unittest

from neargrades.errors import BadSaying, NoState, TooMany
from neargrades.sayings import check_saying, depth, parts_of, shared, written_out
from neargrades.scales import CostScale, SetScale
from neargrades.spaces import Space
from tests.kindsamples import hues, kinds, scales
from tests.samples import Checks, any_values, caught, share_nothing, spoil
from tests.sayingsamples import (
    STATES, all_parts, exchanged, first_bad, inner_numbers, lines, random_saying, steps_in,
)

COST = CostScale(2)
NEXT = ("next",)
NAMES = ("names", hues(COST))
SAMPLES = [  # right sayings about values of each sort of kind, about states where "now" leads to them
    ("like", "red"), ("now", "0"), ("halves", "0", "1"), ("left", "0"), ("right", "0"), ("rows", "0"), ("rows", "0", "1"),
    ("rows", "0", "1", "2"), ("some", "0"), ("all", "0"), ("step", "0"), ("and", "0", "1"), ("or", "0", "1"),
    ("by", "1", "0"), ("if", "1", "0"), "0", "none",
]
ODD_FORMS = [
    ("like",), ("like", "red", "red"), ("now",), ("now", "0", "0"), ("halves", "0"), ("halves", "0", "0", "0"), ("left",),
    ("left", "0", "0"), ("right",), ("rows",), ("rows", "0", "0", "0", "0"), ("some",), ("some", "0", "0"), ("all",),
    ("step",), ("step", "0", "0"), ("and", "0"), ("and", "0", "0", "0"), ("and",), ("or", "0"), ("by", "0"), ("by",),
    ("by", "0", "0", "0"), ("if", "0"), ("by", "9", "0"), ("by", None, "0"), ("by", ["0"], "0"), ("if", 0, "0"),
    ("if", ("0",), "0"), ("like", "green"), ("like", 3), ("like", ["red"]), ("like", ("red",)), ("unlike", "0"),
    ("0",), ("0", "0"), (None, "0"), (["and"], "0", "0"), (("and",), "0", "0"), ["and", "0", "0"], ["0"], "9", "and",
]


class CheckTest(Checks, unittest.TestCase):

    def check_all(self, kind, scale, saying):
        """All four calls tell the same of any value."""
        path = first_bad(kind, scale, saying)
        for call in (check_saying, depth, parts_of, shared):
            if path is not None:
                self.check_raises(BadSaying, call, kind, scale, saying, path=path)
            else:
                self.assertIsNone(caught(call, kind, scale, saying))
        if path is None:
            self.assertIsNone(check_saying(kind, scale, saying))
        return path

    def test_right_sayings(self):
        chance = random.Random(1)
        for scale in scales():
            for kind in kinds(scale):
                for _ in range(8):
                    saying = random_saying(kind, scale, chance, 6)
                    self.assertIsNone(check_saying(kind, scale, saying))
                    self.assertIsNone(first_bad(kind, scale, saying))

    def test_grades_alone(self):
        for kind in kinds(COST):
            for grade in COST.grades():
                self.assertIsNone(check_saying(kind, COST, grade))
            for value in any_values():
                if value != "0":
                    self.check_raises(BadSaying, check_saying, kind, COST, value, path=())

    def test_each_form_at_each_place(self):
        seen = set()
        for kind in kinds(COST):
            for saying in SAMPLES + ODD_FORMS + any_values():
                for whole in (saying, ("step", saying), ("and", ("step", saying), saying), ("by", "1", ("if", "0", saying)),
                              ("or", "9", saying), ("and", saying, 9)):
                    path = self.check_all(kind, COST, whole)
                    seen.add((kind[0], path))
        self.assertGreater(len(seen), 40)

    def test_each_form_at_inner_places(self):
        chance = random.Random(2)
        for scale in (COST, SetScale(["p", "q"])):
            for kind in kinds(scale):
                for _ in range(4):
                    saying = ("or", random_saying(kind, scale, chance, 6), ("step", random_saying(
                        kind, scale, chance, 5, kind)))
                    for path, _, _ in chance.sample(all_parts(kind, saying), min(5, len(all_parts(kind, saying)))):
                        for wrong in chance.sample(SAMPLES + ODD_FORMS + any_values(), 12):
                            self.check_all(kind, scale, exchanged(saying, path, wrong))

    def test_rows_with_one_more_and_one_fewer(self):
        kind = ("row", ("p", "q"), NEXT)
        part = ("now", "0")
        self.assertIsNone(check_saying(kind, COST, ("step", ("rows", part, part))))
        for saying in [("rows", part), ("rows", part, part, part), ("rows",)]:
            self.check_raises(BadSaying, check_saying, kind, COST, ("step", saying), path=(0,))
        # Whatever its own parts are.
        self.check_raises(BadSaying, check_saying, kind, COST, ("step", ("rows", None)), path=(0,))
        self.check_raises(BadSaying, check_saying, kind, COST, ("step", ("rows", part, None)), path=(0, 1))

    def test_names_of_the_space(self):
        empty = ("names", Space(COST, [], []))
        self.check_raises(BadSaying, check_saying, empty, COST, ("step", ("like", "red")), path=(0,))
        self.assertIsNone(check_saying(NAMES, COST, ("step", ("like", "amber"))))

    def test_the_first_one_in_order(self):
        kind = ("both", NAMES, ("kept", NEXT))
        saying = ("and", ("step", ("halves", ("like", "red"), ("some", ("now", ("step", "x"))))), "y")
        self.check_raises(BadSaying, check_saying, kind, COST, saying, path=(0, 0, 1, 0, 0, 0))
        saying = ("and", ("step", ("halves", ("like", "x"), ("some", 3))), "y")
        self.check_raises(BadSaying, check_saying, kind, COST, saying, path=(0, 0, 0))
        self.check_raises(BadSaying, check_saying, kind, COST, ("and", "0", "y"), path=(1,))
        self.check_raises(BadSaying, check_saying, kind, COST, ("by", "9", ("step", None)), path=())

    def test_nested_sayings(self):
        saying = "0"
        for _ in range(60):
            saying = ("if", "1", saying)
        self.assertIsNone(check_saying(NEXT, COST, saying))
        saying = "9"
        for _ in range(90):
            saying = ("step", ("now", saying))
        self.check_raises(BadSaying, check_saying, NEXT, COST, saying, path=(0,) * 180)


class PartsTest(Checks, unittest.TestCase):

    def test_examples(self):
        kind = ("kept", ("both", NAMES, NEXT))
        inner = ("halves", ("like", "red"), ("now", ("step", ("all", "0"))))
        saying = ("if", "1", ("or", ("step", ("some", inner)), "2"))
        self.check_alike(parts_of(kind, COST, saying), [
            ((), saying), ((0,), saying[2]), ((0, 0), saying[2][1]), ((0, 0, 0), ("some", inner)),
            ((0, 0, 0, 0), inner), ((0, 0, 0, 0, 0), ("like", "red")), ((0, 0, 0, 0, 1), inner[2]),
            ((0, 0, 0, 0, 1, 0), ("step", ("all", "0"))), ((0, 0, 0, 0, 1, 0, 0), ("all", "0")),
            ((0, 0, 0, 0, 1, 0, 0, 0), "0"), ((0, 1), "2")])
        self.assertEqual(depth(kind, COST, saying), 2)
        self.check_alike(parts_of(kind, COST, "1"), [((), "1")])

    def test_by_the_words(self):
        chance = random.Random(3)
        depths = set()
        for scale in scales():
            for kind in kinds(scale):
                for _ in range(8):
                    saying = random_saying(kind, scale, chance, 7)
                    self.check_alike(parts_of(kind, scale, saying), [
                        (path, part) for path, _, part in all_parts(kind, saying)])
                    self.check_alike(depth(kind, scale, saying), steps_in(saying))
                    depths.add(depth(kind, scale, saying))
        self.assertTrue({0, 1, 2, 3} <= depths)

    def test_depth_is_that_of_the_deepest_part(self):
        one = ("step", ("now", "0"))
        two = ("step", ("now", one))
        for saying, told in [("0", 0), (one, 1), (two, 2), (("and", one, two), 2), (("and", two, one), 2),
                             (("or", one, ("by", "1", one)), 1), (("step", "0"), 1), (("step", ("and", "0", "0")), 1)]:
            self.check_alike(depth(NEXT, COST, saying), told)

    def test_new_lists(self):
        saying = ("step", ("now", "0"))
        for call in (parts_of, shared):
            told = call(NEXT, COST, saying)
            self.assertTrue(share_nothing(told, call(NEXT, COST, saying)))
            spoil(told)
            self.assertEqual(len(call(NEXT, COST, saying)), 3)


class SharedTest(Checks, unittest.TestCase):

    def test_examples(self):
        one = ("step", ("now", "0"))
        self.check_alike(shared(NEXT, COST, "0"), ["0"])
        self.check_alike(shared(NEXT, COST, ("and", "1", "0")), ["1", "0", ("and", 0, 1)])
        self.check_alike(shared(NEXT, COST, ("and", "0", "0")), ["0", ("and", 0, 0)])
        self.check_alike(shared(NEXT, COST, ("and", one, ("or", one, "0"))), [
            "0", ("now", 0), ("step", 1), ("or", 2, 0), ("and", 2, 3)])
        self.check_alike(shared(NEXT, COST, ("by", "1", ("if", "1", "1"))), ["1", ("if", "1", 0), ("by", "1", 1)])

    def test_equal_parts_at_unlike_places_have_one_line(self):
        kind = ("both", NAMES, ("both", NAMES, NAMES))
        part = ("and", "0", "1")
        saying = ("or", part, ("step", ("halves", part, ("halves", part, ("like", "red")))))
        self.check_alike(shared(kind, COST, saying), [
            "0", "1", ("and", 0, 1), ("like", "red"), ("halves", 2, 3), ("halves", 2, 4), ("step", 5), ("or", 2, 6)])

    def test_by_the_words(self):
        chance = random.Random(4)
        for scale in scales():
            for kind in kinds(scale):
                for _ in range(8):
                    saying = random_saying(kind, scale, chance, 7)
                    told = shared(kind, scale, saying)
                    self.check_alike(told, lines(saying))
                    self.assertEqual(len(told), len(set(told)))
                    if len(all_parts(kind, saying)) <= 400:
                        self.check_alike(written_out(kind, scale, told, len(told) - 1), saying)


class WrittenOutTest(Checks, unittest.TestCase):

    def test_each_line_tells_its_saying(self):
        told = ["0", ("now", 0), ("step", 1), ("and", 0, 2), ("by", "1", 3)]
        one = ("step", ("now", "0"))
        for number, saying in [(0, "0"), (2, one), (3, ("and", "0", one)), (4, ("by", "1", ("and", "0", one)))]:
            self.check_alike(written_out(NEXT, COST, told, number), saying)
            self.check_alike(written_out(NEXT, COST, tuple(told), number), saying)
        self.check_raises(BadSaying, written_out, NEXT, COST, told, 1, path=())

    def test_what_is_no_list(self):
        for value in any_values():
            if not isinstance(value, (list, tuple)):
                self.check_raises(BadSaying, written_out, NEXT, COST, value, None, path=())
        self.check_raises(BadSaying, written_out, NEXT, COST, {"0": "0"}, 0, path=())

    def test_what_is_no_line(self):
        wrong = any_values() + [
            ("and", 0), ("and", 0, 1, 1), ("and", 0, 2), ("and", 2, 0), ("and", 0, 3), ("and", -1, 0), ("and", 0, True),
            ("and", False, 0), ("and", "0", "1"), ("and", 0, None), ("and", 0, [1]), ("and", 0, (1,)), ("or", 0, 2), ("or",),
            ("by", "9", 0), ("by", None, 0), ("by", "1"), ("by", "1", 0, 0), ("by", 1, 0), ("by", "1", 2), ("by", ["1"], 0),
            ("if", "1", "0"), ("if", "1", True), ("if", "9", 0), ("step", 2), ("step",), ("step", 0, 0), ("step", -1),
            ("like", 0), ("like",), ("like", "red", "red"), ("like", None), ("like", ["red"]), ("now", 2), ("now",),
            ("halves", 0), ("halves", 0, 1, 0), ("halves", 0, 2), ("left", 2), ("left", 0, 0), ("right", None), ("rows",),
            ("rows", 0, 2), ("rows", 0, True), ("some", 5), ("some",), ("all", 2), ("all", 0, 1), ("unlike", 0), (0, 0),
            ["and", 0, 1], "9", "and", ("0",), (["and"], 0, 1), (None, 0), ("step", 10 ** 30), ("step", 0.0),
        ]
        for value in wrong:
            for number in (0, 2, None, 9):
                if value != "0":
                    self.check_raises(BadSaying, written_out, NEXT, COST, ["0", "1", value, None], number, path=(2,))
                    self.check_raises(BadSaying, written_out, NEXT, COST, ("0", "1", value), number, path=(2,))
        self.check_raises(BadSaying, written_out, NEXT, COST, [("now", 0)], 0, path=(0,))
        self.check_raises(BadSaying, written_out, NEXT, COST, ["0", ("step", 1)], 0, path=(1,))

    def test_lines_that_stand_nowhere_need_form_alone(self):
        told = [("like", "green"), "0", ("rows", 0, 0, 1, 1, 0), ("some", 2), ("left", 0), ("step", 1), ("all", 5)]
        self.check_alike(written_out(NEXT, COST, told, 5), ("step", "0"))
        self.check_alike(written_out(NEXT, COST, told, 1), "0")

    def test_numbers_of_no_line(self):
        for value in any_values() + [-2, 2, 400]:
            if value not in (0, 1) or isinstance(value, bool):
                self.check_raises(NoState, written_out, NEXT, COST, ["0", ("step", 0)], value, number=value)
        self.check_raises(NoState, written_out, NEXT, COST, [], 0, number=0)
        self.check_raises(NoState, written_out, NEXT, COST, (), None, number=None)

    def test_sayings_that_are_none_about_states(self):
        kind = ("both", ("forth", NEXT), ("row", ("p", "q"), NAMES))
        told = ["0", ("now", 0), ("some", 1), ("like", "red"), ("rows", 3, 3), ("halves", 2, 4), ("step", 5),
                ("like", "green"), ("rows", 3, 7), ("halves", 2, 8), ("step", 9), ("and", 6, 10), ("rows", 3, 3, 3),
                ("halves", 4, 12), ("step", 13), ("or", 11, 14)]
        self.assertIsNone(caught(written_out, kind, COST, told, 6))
        for number, path in [(1, ()), (5, ()), (10, (0, 1, 1)), (11, (1, 0, 1, 1)), (14, (0, 0)), (15, (0, 1, 0, 1, 1))]:
            self.check_raises(BadSaying, written_out, kind, COST, told, number, path=path)

    def test_paths_as_check_saying_tells_them(self):
        chance = random.Random(5)
        seen = set()
        for scale in (COST, SetScale(["p", "q"])):
            for kind in kinds(scale):
                for other in kinds(scale):
                    saying = random_saying(other, scale, chance, 7)
                    told = lines(saying)
                    path = first_bad(kind, scale, saying)
                    error = caught(written_out, kind, scale, told, len(told) - 1)
                    if path is None:
                        self.assertIsInstance(error, (type(None), TooMany))
                    else:
                        self.check_raises(BadSaying, written_out, kind, scale, told, len(told) - 1, path=path)
                        seen.add(path)
        self.assertGreater(len(seen), 20)

    def test_four_hundred_parts(self):
        # 199 "and", each with one grade more, and a step with a grade.
        told = ["0", ("step", 0)] + [("and", k + 1, 0) for k in range(199)]
        saying = written_out(NEXT, COST, told, 200)
        self.assertEqual(len(parts_of(NEXT, COST, saying)), 400)
        told = ["0"] + [("and", k, 0) for k in range(200)]
        self.check_raises(TooMany, written_out, NEXT, COST, told, 200)
        self.assertEqual(len(all_parts(NEXT, written_out(NEXT, COST, told, 199))), 399)

    def test_too_many_parts_at_once(self):
        told = ["0", ("step", 0)] + [("and", k + 1, k + 1) for k in range(1500)]
        for number in (9, 60, 1000, 1501):
            self.check_raises(TooMany, written_out, NEXT, COST, told, number)
        self.assertEqual(len(all_parts(NEXT, written_out(NEXT, COST, told, 7))), 191)
        # Wrong parts come ahead of too many.
        told[0:2] = [("like", "red"), ("step", 0)]
        self.check_raises(BadSaying, written_out, NEXT, COST, told, 1501, path=(0,) * 1501)

    def test_long_chains(self):
        told = ["0"]
        for _ in range(900):
            told += [("now", len(told) - 1), ("step", len(told))]
        self.check_raises(TooMany, written_out, NEXT, COST, told, len(told) - 1)
        self.check_raises(BadSaying, written_out, NAMES, COST, told, len(told) - 1, path=(0,))
        self.assertEqual(depth(NEXT, COST, written_out(NEXT, COST, told, 398)), 199)

    def test_nothing_is_changed(self):
        told = ["0", ("step", 0), ("and", 0, 1)]
        shown = repr(told)
        written_out(NEXT, COST, told, 2)
        self.assertEqual(repr(told), shown)
        self.assertEqual(inner_numbers(told[2]), (0, 1))
        self.assertEqual(STATES, "states")


if __name__ == "__main__":
    unittest.main()
