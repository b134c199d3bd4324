import random
import unittest

from neargrades.errors import BadSaying, NoState, UnknownState
from neargrades.residues import within
from neargrades.rounds import near
from neargrades.sayings import shared
from neargrades.scales import CostScale, SetScale
from neargrades.spaces import Space
from neargrades.systems import System, made_system
from neargrades.values import value_of
from neargrades.worths import line_worths, value_worth, worth_at, worths
from tests.kindsamples import hues, kinds, random_data
from tests.nearsamples import ODD_NAMES, STATE_NAMES, couples, pairs, random_system, near_scales
from tests.samples import Checks, any_values, one_grade, share_nothing, spoil
from tests.sayingsamples import STATES, first_bad, random_saying, worth

COST = CostScale(3)
NEXT = ("next",)


def sample():
    space = Space(COST, ["p", "q"], [["0", "2"], ["3", "0"]])
    kind = ("both", ("names", space), ("kept", NEXT))
    return System(COST, kind, ["a", "b"], {"a": ("p", [("a", "1"), ("b", "0")]), "b": ("q", [])})


class WorthsTest(Checks, unittest.TestCase):

    def test_examples(self):
        system = sample()
        for saying, told in [
            ("2", ("2", "2")), ("none", ("none", "none")),
            (("step", ("halves", ("like", "p"), "0")), ("0", "2")), (("step", ("halves", ("like", "q"), "0")), ("3", "0")),
            (("step", ("halves", "0", ("some", "0"))), ("0", "none")), (("step", ("halves", "0", ("some", "1"))), ("1", "none")),
            (("step", ("halves", "0", ("all", "none"))), ("none", "0")), (("step", ("halves", "0", ("all", "2"))), ("2", "0")),
            (("and", "1", ("step", ("halves", ("like", "p"), "0"))), ("1", "2")),
            (("or", "1", ("step", ("halves", ("like", "p"), "0"))), ("0", "1")),
            (("by", "1", ("step", ("halves", ("like", "p"), "0"))), ("1", "3")),
            (("if", "1", ("step", ("halves", ("like", "p"), "0"))), ("0", "1")),
            (("step", ("halves", "0", ("some", ("now", ("step", ("halves", ("like", "p"), "0")))))), ("1", "none")),
            (("step", ("halves", "0", ("all", ("now", ("step", ("halves", ("like", "p"), "0")))))), ("2", "0")),
        ]:
            self.check_alike(worths(system, saying), {"a": told[0], "b": told[1]})
            self.check_alike(worth_at(system, "b", saying), told[1])

    def test_halves_and_sides_and_letters(self):
        states = {"a": ("b", "a"), "b": ("a", "b")}
        one = ("step", ("halves", "1", "2"))
        self.assertEqual(worth_at(System(COST, ("both", NEXT, NEXT), ["a", "b"], states), "a", one), "2")
        self.assertEqual(worth_at(System(COST, ("along", NEXT, NEXT), ["a", "b"], states), "a", one), "3")
        self.assertEqual(worth_at(System(COST, ("row", ("p", "q"), NEXT), ["a", "b"], states), "a",
                                  ("step", ("rows", "1", "0"))), "1")
        system = System(COST, ("either", NEXT, NEXT), ["a", "b"], {"a": ("left", "a"), "b": ("right", "a")})
        self.check_alike(worths(system, ("step", ("left", "1"))), {"a": "1", "b": "none"})
        self.check_alike(worths(system, ("step", ("right", "1"))), {"a": "none", "b": "1"})

    def test_by_the_words(self):
        chance = random.Random(1)
        seen = set()
        for scale in near_scales() + [SetScale(["a", "b", "c"])]:
            for kind in kinds(scale):
                for states in (STATE_NAMES[:3], ODD_NAMES[:4]):
                    system = random_system(kind, scale, states, chance)
                    for _ in range(6):
                        saying = random_saying(kind, scale, chance, 5)
                        told = {x: worth(system, saying, STATES, x) for x in states}
                        self.check_alike(list(worths(system, saying).items()), list(told.items()))
                        x = chance.choice(states)
                        self.check_alike(worth_at(system, x, saying), told[x])
                        lines = shared(kind, scale, saying)
                        self.check_alike(list(line_worths(system, lines, len(lines) - 1).items()), list(told.items()))
                        seen.add((kind[0], told[x]))
                        value = value_of(kind, scale, states, random_data(kind, scale, states, chance))
                        saying = random_saying(kind, scale, chance, 5, kind)
                        self.check_alike(value_worth(system, value, saying), worth(system, saying, kind, value))
        self.assertGreater(len(seen), 50)

    def test_values_of_steps(self):
        system = sample()
        self.assertEqual(value_worth(system, ("q", ()), ("halves", ("like", "p"), "0")), "2")
        self.assertEqual(value_worth(system, ("p", (("b", "0"),)), ("halves", "0", ("some", ("now", "1")))), "1")
        self.assertEqual(value_worth(system, system.step("a"), "2"), "2")

    def test_no_states(self):
        none = System(COST, ("forth", NEXT), [], {})
        self.check_alike(worths(none, ("step", ("some", "0"))), {})
        self.check_alike(line_worths(none, ["0"], 0), {})
        self.assertEqual(value_worth(none, (), ("some", "0")), "none")
        self.check_raises(UnknownState, worth_at, none, "a", "0", name="a")

    def test_one_grade(self):
        for kind in kinds(one_grade()):
            system = random_system(kind, one_grade(), STATE_NAMES, random.Random(2))
            self.assertEqual(set(worths(system, random_saying(kind, one_grade(), random.Random(3), 5)).values()), {"only"})

    def test_worths_go_along_with_nearness(self):
        # The worth at x times the nearness of x to y is within the worth at y.
        chance = random.Random(4)
        for one, two in couples(chance, 3, 3):
            for x, y in pairs(one, two)[:3]:
                grade = near(one, two, x, y)
                for _ in range(3):
                    saying = random_saying(one.kind, one.scale, chance, 6)
                    told = one.scale.then(worth_at(one, x, saying), grade)
                    self.assertTrue(within(one.scale, told, worth_at(two, y, saying)))


class ErrorTest(Checks, unittest.TestCase):

    def test_bad_sayings(self):
        chance = random.Random(5)
        wrong = any_values() + [("like", "red"), ("step",), ("step", "9"), ("and", "0", ("step", ("now", 3)))]
        for kind in kinds(COST):
            system = random_system(kind, COST, ["a", "b"], chance)
            for saying in wrong + [("step", part) for part in wrong] + [("or", "0", part) for part in wrong]:
                path = first_bad(kind, COST, saying)
                if path is not None:
                    self.check_raises(BadSaying, worths, system, saying, path=path)
                    self.check_raises(BadSaying, worth_at, system, None, saying, path=path)
                    self.check_raises(BadSaying, worth_at, system, "a", saying, path=path)
                path = first_bad(kind, COST, saying, kind)
                if path is not None:
                    self.check_raises(BadSaying, value_worth, system, system.step("a"), saying, path=path)

    def test_unknown_states(self):
        for value in any_values():
            self.check_raises(UnknownState, worth_at, sample(), value, "0", name=value)

    def test_wrong_lines(self):
        system = sample()
        for value in any_values():
            if not isinstance(value, (list, tuple)):
                self.check_raises(BadSaying, line_worths, system, value, 0, path=())
            if value != "0":
                self.check_raises(BadSaying, line_worths, system, ["0", value], None, path=(1,))
            if value != 0 or isinstance(value, bool):
                self.check_raises(BadSaying, line_worths, system, ["0", ("and", 0, value)], 0, path=(1,))
                self.check_raises(NoState, line_worths, system, ["0"], value, number=value)
        self.check_raises(BadSaying, line_worths, system, ["0", ("now", 0), ("step", 1)], 2, path=(0,))
        self.check_raises(BadSaying, line_worths, system, ["0", ("step", 1)], 2, path=(1,))
        self.check_raises(NoState, line_worths, system, ["0", ("now", 0), ("step", 1)], 3, number=3)

    def test_new_dicts(self):
        system = sample()
        lines = ["0", ("and", 0, 0)]
        self.assertTrue(share_nothing(worths(system, "0"), line_worths(system, lines, 0), lines))
        spoil(worths(system, "0"))
        spoil(line_worths(system, lines, 1))
        self.check_alike(lines, ["0", ("and", 0, 0)])
        self.check_alike(worths(system, "0"), {"a": "0", "b": "0"})


class LongTest(Checks, unittest.TestCase):
    """Lines whose sayings would have very many parts, or stand very deep in one another."""

    def test_lines_that_double(self):
        kind = ("both", NEXT, NEXT)
        system = System(COST, kind, ["a", "b"], {"a": ("b", "a"), "b": ("b", "b")})
        lines = ["1"]
        for _ in range(600):
            count = len(lines)
            lines += [("now", count - 1), ("halves", count, count), ("step", count + 1)]
        self.check_alike(line_worths(system, lines, len(lines) - 1), {"a": "1", "b": "1"})
        self.check_alike(line_worths(system, tuple(lines), 0), {"a": "1", "b": "1"})

    def test_a_saying_that_goes_round_many_times(self):
        # One of two states is marked; the saying asks how it is after 499 steps.
        space = ("names", hues(COST))
        system = System(COST, ("both", space, NEXT), ["a", "b"], {"a": ("red", "b"), "b": ("blue", "a")})
        lines = ["0", ("like", "blue"), ("halves", 1, 0), ("step", 2)]
        for _ in range(499):
            count = len(lines)
            lines += [("now", count - 1), ("halves", 0, count), ("step", count + 1)]
        self.check_alike(line_worths(system, lines, len(lines) - 1), {"a": "0", "b": "none"})
        self.check_alike(line_worths(system, lines, len(lines) - 4), {"a": "none", "b": "0"})

    def test_sayings_of_many_parts(self):
        kind = ("kept", ("both", NEXT, NEXT))
        states = list("abcdefgh")
        chance = random.Random(6)
        system = made_system(COST, kind, states, {
            x: [((y, z), chance.choice(COST.grades())) for y in states for z in states] for x in states})
        saying = "1"
        for _ in range(40):
            saying = ("step", ("some", ("halves", ("now", saying), "2")))
        self.assertLessEqual(set(worths(system, saying).values()), set(COST.grades()))
        self.assertEqual(worth_at(system, "a", saying), worths(system, saying)["a"])


if __name__ == "__main__":
    unittest.main()
