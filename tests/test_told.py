import random
import unittest

from neargrades.errors import (
    BadSaying, MixedKinds, MixedScales, TooMany, UnknownGrade, UnknownState,
)
from neargrades.residues import within
from neargrades.rounds import near, round_below, tables
from neargrades.sayings import check_saying, depth, parts_of, shared, written_out
from neargrades.scales import CostScale, LevelScale, SetScale
from neargrades.systems import System, made_system
from neargrades.told import (
    judge_lines, judge_saying, parting, parting_lines, thinned_saying, told_lines, told_saying, told_value,
)
from neargrades.values import value_of
from neargrades.worths import line_worths, worth_at, worths
from tests.kindsamples import hues, kinds, random_data
from tests.nearsamples import ODD_NAMES, STATE_NAMES, couples, near_scales, pairs, random_system
from tests.samples import Checks, any_values, caught, share_nothing, spoil
from tests.sayingsamples import all_parts, lines, random_saying
from tests.toldsamples import (
    parts_them, thinned_by_words, told_part, told_size, told_state, value_size,
)

COST = CostScale(3)
NEXT = ("next",)
NAMES = ("names", hues(COST))


def made(kind, steps, scale=COST):
    return made_system(scale, kind, list(steps), steps)


def ring(count, marks=1):
    """States in a ring, the last ones of which are red."""
    names = [f"s{k}" for k in range(count)]
    return made(("both", NAMES, NEXT), {
        names[k]: ("red" if k >= count - marks else "blue", names[(k + 1) % count]) for k in range(count)})


class ToldTest(Checks, unittest.TestCase):

    def test_no_rounds(self):
        for kind in kinds(COST):
            system = random_system(kind, COST, ["a", "b"], random.Random(1))
            self.check_alike(told_saying(system, "a", 0), "0")

    def test_each_form(self):
        step = ("step", "0")
        for kind, value, told in [
            (NAMES, "red", ("like", "red")), (NEXT, "a", ("now", step)),
            (("both", NAMES, NEXT), ("blue", "b"), ("halves", ("like", "blue"), ("now", "x"))),
            (("along", NEXT, NAMES), ("a", "red"), ("halves", ("now", "x"), ("like", "red"))),
            (("either", NAMES, NEXT), ("left", "red"), ("left", ("like", "red"))),
            (("either", NAMES, NEXT), ("right", "b"), ("right", ("now", "x"))),
            (("row", ("p",), NAMES), ("red",), ("rows", ("like", "red"))),
            (("row", ("p", "q", "r"), NAMES), ("red", "blue", "red"), (
                "rows", ("like", "red"), ("like", "blue"), ("like", "red"))),
        ]:
            system = made(kind, {"a": value, "b": value})
            if kind == NEXT:
                told = ("now", "x")
            self.check_alike(told_saying(system, "a", 1), ("step", swapped(told, "0")))
            self.check_alike(told_value(system, value, 0), swapped(told, "0"))
            inner = told_saying(system, "b", 1)
            self.check_alike(told_value(system, value, 1), swapped(told, inner))

    def test_sets(self):
        one, two, three = ("like", "red"), ("like", "blue"), ("like", "amber")
        entries = [("red", "1"), ("blue", "0"), ("amber", "2")]
        both = [("if", "1", ("some", one)), ("if", "0", ("some", two)), ("if", "2", ("some", three))]
        some = [("by", "1", one), ("by", "0", two), ("by", "2", three)]
        for count, forth, back in [
            (0, "0", ("all", "none")), (1, both[0], ("all", some[0])),
            (2, ("and", both[0], both[1]), ("all", ("or", some[0], some[1]))),
            (3, ("and", both[0], ("and", both[1], both[2])), ("all", ("or", some[0], ("or", some[1], some[2])))),
        ]:
            value = tuple(entries[:count])
            for word, told in [("forth", forth), ("back", back), ("kept", ("and", forth, back))]:
                system = made((word, NAMES), {"a": value})
                self.check_alike(told_saying(system, "a", 1), ("step", told))
                self.check_alike(told_value(system, value, 5), told)
                self.check_alike(told_saying(system, "a", 200), ("step", told))

    def test_by_the_words(self):
        chance = random.Random(2)
        seen = [0, 0]
        for scale in near_scales():
            for kind in kinds(scale):
                for states in (STATE_NAMES[:3], ODD_NAMES[:2]):
                    system = random_system(kind, scale, states, chance, 2)
                    for rounds in (1, 2, 3, 6):
                        for x in states:
                            count = told_size(system, rounds, x)
                            if count > 400:
                                self.check_raises(TooMany, told_saying, system, x, rounds)
                            else:
                                self.check_alike(told_saying(system, x, rounds), told_state(system, rounds, x))
                                self.assertEqual(len(parts_of(kind, scale, told_saying(system, x, rounds))), count)
                            seen[count > 400] += 1
        self.assertTrue(min(seen) > 30, seen)

    def test_values_by_the_words(self):
        chance = random.Random(3)
        for scale in near_scales():
            for kind in kinds(scale):
                system = random_system(kind, scale, STATE_NAMES[:3], chance, 2)
                for rounds in (0, 1, 2, 4):
                    value = value_of(kind, scale, system.states(), random_data(kind, scale, system.states(), chance))
                    sizes = {z: told_size(system, rounds, z) for z in system.states()}
                    if value_size(kind, value, sizes) > 400:
                        self.check_raises(TooMany, told_value, system, value, rounds)
                    else:
                        self.check_alike(told_value(system, value, rounds), told_part(system, kind, rounds, value))

    def test_four_hundred_parts_and_one_more(self):
        # A round has two parts more, a pair with a name four.
        system = made(NEXT, {"a": "b", "b": "a"})
        self.assertEqual(len(all_parts(NEXT, told_saying(system, "a", 199))), 399)
        self.check_raises(TooMany, told_saying, system, "a", 200)
        self.check_raises(TooMany, told_value, system, "a", 200)
        kind = ("both", NEXT, ("row", ("p",), NAMES))
        system = made(kind, {"a": ("a", ("red",))})
        self.assertEqual(len(all_parts(kind, told_saying(system, "a", 79))), 396)
        self.check_raises(TooMany, told_saying, system, "a", 80)
        for half, last, count in [
            (("row", ("p", "q", "r"), NAMES), ("red",) * 3, 400),
            (("both", NAMES, ("both", NAMES, NAMES)), ("red", ("red", "red")), 401),
        ]:
            states = [f"x{k}" for k in range(79)]
            system = made(("both", ("forth", NEXT), half), {x: ([(z, "1") for z in states], last) for x in states})
            value = system.step("x0")
            self.assertEqual(told_size(system, 1, "x0"), count)
            self.assertEqual(value_size(system.kind, value, {x: 1 for x in states}), count - 1)
            self.assertEqual(len(all_parts(system.kind, told_value(system, value, 0), system.kind)), count - 1)
            self.check_raises(TooMany, told_value, system, value, 1)
            if count == 400:
                self.assertEqual(len(all_parts(system.kind, told_saying(system, "x0", 1))), 400)
            else:
                self.check_raises(TooMany, told_saying, system, "x0", 1)

    def test_many_rounds_at_once(self):
        chance = random.Random(4)
        seen = set()
        states = list("abcdefgh")
        for kind in (("kept", NEXT), ("kept", ("both", NEXT, NEXT)), ("forth", ("forth", NEXT)), ("both", NAMES, NEXT)):
            system = random_system(kind, COST, states, chance, 12)
            for x in states:
                error = TooMany if told_size(system, 200, x) > 400 else type(None)
                self.assertIs(type(caught(told_saying, system, x, 200)), error)
                self.assertIs(type(caught(told_value, system, system.step(x), 199)), error)
                seen.add(error)
        self.assertEqual(len(seen), 2)
        # Much is told to others, but what x leads to is told little.
        steps = {x: [(z, "1") for z in states] for x in states[1:]}
        system = made(("kept", NEXT), {"a": (), **steps})
        self.check_alike(told_saying(system, "a", 200), ("step", ("and", "0", ("all", "none"))))
        self.check_alike(told_value(system, (), 200), ("and", "0", ("all", "none")))
        self.check_raises(TooMany, told_value, system, (("b", "1"),), 200)

    def test_unknown_states(self):
        system = made(NEXT, {"a": "a"})
        for value in any_values():
            self.check_raises(UnknownState, told_saying, system, value, 1, name=value)
        self.check_raises(UnknownState, told_saying, System(COST, NEXT, [], {}), "a", 0, name="a")
        self.check_raises(UnknownState, told_saying, system, "b", 200, name="b")

    def test_worths_are_those_of_the_rounds(self):
        chance = random.Random(5)
        for one, two in couples(chance, 3, 3):
            told = tables(one, two, 4)
            for rounds in range(5):
                numbers = told_lines(one, rounds)
                for x in one.states():
                    behind = line_worths(two, numbers[0], numbers[1][x])
                    self.check_alike(behind, {y: told[rounds][(x, y)] for y in two.states()})
                    self.assertEqual(line_worths(one, numbers[0], numbers[1][x])[x], one.scale.nearest)
                    if told_size(one, rounds, x) <= 400:
                        self.check_alike(worths(two, told_saying(one, x, rounds)), behind)
                        self.assertEqual(worth_at(one, x, told_saying(one, x, rounds)), one.scale.nearest)


def swapped(saying, inner):
    """A saying with another one in the place of "x"."""
    if saying == "x":
        return inner
    return tuple(swapped(part, inner) for part in saying) if isinstance(saying, tuple) else saying


class LinesTest(Checks, unittest.TestCase):

    def test_examples(self):
        system = made(("both", NAMES, NEXT), {"a": ("red", "b"), "b": ("red", "b"), "c": ("blue", "a")})
        self.check_alike(told_lines(system, 0), (["0"], {"a": 0, "b": 0, "c": 0}))
        first = ["0", ("like", "red"), ("now", 0), ("halves", 1, 2), ("step", 3), ("like", "blue"), ("halves", 5, 2),
                 ("step", 6)]
        self.check_alike(told_lines(system, 1), (first, {"a": 4, "b": 4, "c": 7}))
        second = [*first, ("now", 4), ("halves", 1, 8), ("step", 9), ("halves", 5, 8), ("step", 11)]
        self.check_alike(told_lines(system, 2), (second, {"a": 10, "b": 10, "c": 12}))

    def test_a_set_of_kind_kept(self):
        system = made(("kept", NEXT), {"a": [("a", "1"), ("b", "2")], "b": ()})
        self.check_alike(told_lines(system, 1), ([
            "0", ("now", 0), ("some", 1), ("if", "1", 2), ("if", "2", 2), ("and", 3, 4), ("by", "1", 1), ("by", "2", 1),
            ("or", 6, 7), ("all", 8), ("and", 5, 9), ("step", 10), "none", ("all", 12), ("and", 0, 13), ("step", 14),
        ], {"a": 11, "b": 15}))

    def test_three_entries(self):
        system = made(("forth", NAMES), {"a": [("red", "1"), ("blue", "1"), ("amber", "2")]})
        self.check_alike(told_lines(system, 7), ([
            "0", ("like", "red"), ("some", 1), ("if", "1", 2), ("like", "blue"), ("some", 4), ("if", "1", 5),
            ("like", "amber"), ("some", 7), ("if", "2", 8), ("and", 6, 9), ("and", 3, 10), ("step", 11)], {"a": 12}))

    def test_by_the_words(self):
        chance = random.Random(6)
        for scale in near_scales():
            for kind in kinds(scale):
                for states in (STATE_NAMES[:3], ODD_NAMES[:2]):
                    system = random_system(kind, scale, states, chance, 2)
                    for rounds in range(3):
                        told, numbers = told_lines(system, rounds)
                        all_told = by_words(system, rounds)
                        self.check_alike(told, all_told[0])
                        self.check_alike(numbers, {x: all_told[1][x] for x in states})
                        for x in states:
                            self.check_alike(
                                caught(written_out, kind, scale, told, numbers[x]) is None, told_size(system, rounds, x) <= 400)

    def test_one_state_alone(self):
        # Where there is but one state, the lines are those of its own saying.
        chance = random.Random(7)
        for kind in kinds(COST):
            system = random_system(kind, COST, ["a"], chance, 2)
            for rounds in range(4):
                if told_size(system, rounds, "a") <= 400:
                    told, numbers = told_lines(system, rounds)
                    saying = told_saying(system, "a", rounds)
                    self.assertLessEqual(len(shared(kind, COST, saying)), len(told))
                    self.check_alike(written_out(kind, COST, told, numbers["a"]), saying)

    def test_states_with_the_same_sayings_have_one_line(self):
        system = made(("forth", NEXT), {x: [("a", "1"), ("b", "1")] for x in ("b", "a", "c")})
        for rounds in (0, 1, 5, 200):
            told, numbers = told_lines(system, rounds)
            self.assertEqual(len(set(numbers.values())), 1)
            self.assertEqual(list(numbers), ["b", "a", "c"])
            self.assertEqual(len(told), len(set(told)))

    def test_no_states(self):
        for rounds in (0, 1, 200):
            self.check_alike(told_lines(System(COST, ("forth", NEXT), [], {}), rounds), ([], {}))

    def test_nothing_changes_behind_some_round(self):
        system = made(("both", NAMES, NAMES), {"a": ("red", "blue")})
        self.check_alike(told_lines(system, 1), told_lines(system, 200))
        self.check_alike(told_lines(system, 1)[0], ["0", ("like", "red"), ("like", "blue"), ("halves", 1, 2), ("step", 3)])

    def test_two_hundred_rounds(self):
        system = made(NEXT, {"a": "b", "b": "a"})
        told, numbers = told_lines(system, 200)
        self.assertEqual(len(told), 401)
        self.check_alike(numbers, {"a": 400, "b": 400})
        self.check_alike(told[-2:], [("now", 398), ("step", 399)])

    def test_lines_of_long_sayings(self):
        # The saying has thousands of parts already behind few rounds.
        chance = random.Random(8)
        states = list("abcdefgh")
        system = random_system(("kept", ("both", NEXT, NEXT)), COST, states, chance, 12)
        other = random_system(("kept", ("both", NEXT, NEXT)), COST, states, chance, 12)
        told, numbers = told_lines(system, 60)
        self.assertGreater(told_size(system, 60, "a"), 10 ** 30)
        worth = line_worths(other, told, numbers["a"])
        self.check_alike(worth, {y: tables(system, other, 60)[60][("a", y)] for y in states})
        self.check_raises(TooMany, written_out, system.kind, COST, told, numbers["a"])

    def test_new_ones(self):
        system = ring(3)
        told = told_lines(system, 3)
        self.assertTrue(share_nothing(told, told_lines(system, 3)))
        spoil(told)
        self.assertFalse(told == told_lines(system, 3))


def by_words(system, rounds):
    """The lines of all told sayings, one behind another, and the numbers of the last ones."""
    told, numbers = [], {}
    for count in range(rounds + 1):
        for x in system.states():
            saying = told_state(system, count, x)
            own = lines(saying)
            leads = {}
            for k, line in enumerate(own):
                moved = moved_line(line, leads)
                if moved not in told:
                    told.append(moved)
                leads[k] = told.index(moved)
            numbers[x] = leads[len(own) - 1]
    return told, numbers


def moved_line(line, leads):
    if isinstance(line, str) or line[0] == "like":
        return line
    first = 2 if line[0] in ("by", "if") else 1
    return line[:first] + tuple(leads[k] for k in line[first:])


class PartingTest(Checks, unittest.TestCase):

    def test_examples(self):
        system = ring(4)
        self.assertEqual(near(system, system, "s0", "s1"), "none")
        saying = parting(system, system, "s1", "s0", "0")
        self.assertEqual(depth(system.kind, COST, saying), 3)
        self.check_alike(saying, told_saying(system, "s1", 3))
        told, number = parting_lines(system, system, "s1", "s0", "0")
        self.check_alike((told, number), (told_lines(system, 3)[0], told_lines(system, 3)[1]["s1"]))
        self.assertLess(number, len(told) - 1)
        self.assertIsNone(parting(system, system, "s1", "s1", "0"))
        self.assertIsNone(parting_lines(system, system, "s1", "s1", "0"))
        self.assertIsNone(parting(system, system, "s1", "s0", "none"))
        self.assertIsNone(parting_lines(system, system, "s1", "s0", "none"))

    def test_by_one_grade_and_not_by_another_one(self):
        system = made(("forth", NEXT), {"a": [("c", "1")], "b": [("c", "2")], "c": ()})
        self.assertEqual(near(system, system, "a", "b"), "1")
        saying = parting(system, system, "a", "b", "0")
        self.check_alike(saying, ("step", ("if", "1", ("some", ("now", "0")))))
        self.assertIsNone(parting(system, system, "a", "b", "1"))
        for grade, told in [("0", True), ("1", False), ("2", False), ("none", False)]:
            self.check_alike(judge_saying(system, system, "a", "b", grade, saying), told)

    def test_against_nearness(self):
        chance = random.Random(9)
        seen = {"none": 0, "told": 0, "many": 0}
        for one, two in couples(chance, 3, 3):
            for x, y in pairs(one, two)[:4]:
                for grade in one.scale.grades():
                    rounds = round_below(one, two, x, y, grade)
                    self.assertEqual(rounds is None, within(one.scale, grade, near(one, two, x, y)))
                    if rounds is None:
                        seen["none"] += 1
                        self.assertIsNone(parting(one, two, x, y, grade))
                        self.assertIsNone(parting_lines(one, two, x, y, grade))
                        continue
                    told, number = parting_lines(one, two, x, y, grade)
                    self.check_alike((told, number), (told_lines(one, rounds)[0], told_lines(one, rounds)[1][x]))
                    self.check_alike(judge_lines(one, two, x, y, grade, told, number), True)
                    if told_size(one, rounds, x) > 400:
                        seen["many"] += 1
                        self.check_raises(TooMany, parting, one, two, x, y, grade)
                        continue
                    seen["told"] += 1
                    saying = parting(one, two, x, y, grade)
                    self.check_alike(saying, told_saying(one, x, rounds))
                    self.assertIsNone(check_saying(one.kind, one.scale, saying))
                    self.assertTrue(parts_them(one, two, x, y, grade, saying))
                    self.check_alike(judge_saying(one, two, x, y, grade, saying), True)
        self.assertTrue(min(seen["none"], seen["told"]) > 100 and seen["many"] > 2, seen)

    def test_the_least_depth(self):
        # No saying of a lesser depth parts: those that are told less do not, nor do random ones.
        chance = random.Random(10)
        count = 0
        for one, two in couples(chance, 3, 2):
            for x, y in pairs(one, two)[:3]:
                for grade in one.scale.grades():
                    rounds = round_below(one, two, x, y, grade)
                    if rounds is None:
                        continue
                    for fewer in range(rounds):
                        told, numbers = told_lines(one, fewer)
                        self.check_alike(judge_lines(one, two, x, y, grade, told, numbers[x]), False)
                    for _ in range(4):
                        saying = random_saying(one.kind, one.scale, chance, 6)
                        if judge_saying(one, two, x, y, grade, saying):
                            count += 1
                            self.assertGreaterEqual(depth(one.kind, one.scale, saying), rounds)
        self.assertGreater(count, 20)

    def test_nothing_parts_where_the_nearness_has_the_grade(self):
        chance = random.Random(11)
        for one, two in couples(chance, 3, 2):
            for x, y in pairs(one, two)[:3]:
                grade = near(one, two, x, y)
                for _ in range(3):
                    saying = random_saying(one.kind, one.scale, chance, 6)
                    self.check_alike(judge_saying(one, two, x, y, grade, saying), False)

    def test_one_grade(self):
        one = made(NEXT, {"a": "a", "b": "a"}, LevelScale(1))
        self.assertIsNone(parting(one, one, "a", "b", "1"))

    def test_long_ways(self):
        system = ring(40)
        told, number = parting_lines(system, system, "s1", "s0", "0")
        self.assertTrue(judge_lines(system, system, "s1", "s0", "0", told, number))
        self.assertEqual(round_below(system, system, "s1", "s0", "0"), 39)
        self.assertEqual(depth(system.kind, COST, parting(system, system, "s1", "s0", "0")), 39)
        system = ring(110)
        self.check_raises(TooMany, parting, system, system, "s1", "s0", "0")
        told, number = parting_lines(system, system, "s1", "s0", "0")
        self.assertTrue(judge_lines(system, system, "s1", "s0", "0", told, number))


class JudgeTest(Checks, unittest.TestCase):

    def setUp(self):
        self.one = ring(3)
        self.two = made(self.one.kind, {"z": ("red", "z")})

    def test_any_values(self):
        for value in any_values() + ["0", "none", ("step", "0"), ("step", ("like", "red")), ("now", "0")]:
            self.check_alike(judge_saying(self.one, self.two, "s0", "z", "0", value), False)
        self.check_alike(judge_saying(self.one, self.two, "s0", "z", "0", ("step", ("halves", ("like", "blue"), "0"))), True)

    def test_both_halves_of_what_it_asks(self):
        red = ("step", ("halves", ("like", "red"), "0"))
        self.check_alike(judge_saying(self.one, self.two, "s2", "z", "0", red), False)
        self.check_alike(judge_saying(self.one, self.two, "s0", "z", "0", red), False)
        self.check_alike(judge_saying(self.one, self.one, "s2", "s0", "0", red), True)
        # Not nearest at x, however little it is at y.
        self.check_alike(judge_saying(self.one, self.one, "s2", "s0", "0", ("by", "1", red)), False)
        self.check_alike(judge_saying(self.one, self.one, "s2", "s0", "0", ("if", "1", red)), True)

    def test_by_the_words(self):
        chance = random.Random(12)
        seen = set()
        for one, two in couples(chance, 3, 3, scales=[COST, SetScale(["p", "q"])]):
            for x, y in pairs(one, two)[:3]:
                for _ in range(6):
                    saying = random_saying(one.kind, one.scale, chance, 6)
                    grade = chance.choice(one.scale.grades())
                    told = parts_them(one, two, x, y, grade, saying)
                    self.check_alike(judge_saying(one, two, x, y, grade, saying), told)
                    own = [*shared(one.kind, one.scale, saying), one.scale.none]
                    self.check_alike(judge_lines(one, two, x, y, grade, own, len(own) - 2), told)
                    self.check_alike(judge_lines(one, two, x, y, grade, tuple(own), len(own) - 1), False)
                    seen.add((one.kind[0], told))
        self.assertGreater(len(seen), 14)

    def test_wrong_lines(self):
        right = ["0", ("like", "blue"), ("halves", 1, 0), ("step", 2), ("and", 0, 3)]
        ask = (self.one, self.two, "s0", "z", "0")
        for number in range(5):
            self.check_alike(judge_lines(*ask, right, number), number > 2)
        for value in any_values():
            if not isinstance(value, (list, tuple)):
                self.check_alike(judge_lines(*ask, value, 0), False)
            if value != "0":
                self.check_alike(judge_lines(*ask, right + [value], 3), False)
            if isinstance(value, bool) or value != 3:
                self.check_alike(judge_lines(*ask, right, value), False)
        self.check_alike(judge_lines(*ask, right, 5), False)
        self.check_alike(judge_lines(*ask, right, -1), False)
        self.check_alike(judge_lines(*ask, right + [("and", 3, 5)], 3), False)
        # What does not stand in the saying needs a form alone.
        self.check_alike(judge_lines(*ask, right + [("like", "green")], 3), True)
        self.check_alike(judge_lines(*ask, right + [("step", 1)], 5), False)


class ThinnedTest(Checks, unittest.TestCase):

    def test_nothing_can_go(self):
        system = made(("forth", NEXT), {"a": [("c", "1")], "b": [("c", "2")], "c": ()})
        saying = ("step", ("if", "1", ("some", "0")))
        self.check_alike(thinned_saying(system, system, "a", "b", "0", saying), saying)

    def test_all_but_a_grade_can_go(self):
        # Whatever parts states has a worth that is not nearest somewhere: the whole never becomes a grade.
        system = made(NAMES, {"a": "red", "b": "blue"})
        saying = ("step", ("like", "blue"))
        self.check_raises(BadSaying, thinned_saying, system, system, "a", "b", "0", "0", path=())
        self.assertTrue(judge_saying(system, system, "b", "a", "0", saying))
        system = made(("either", NAMES, NEXT), {"a": ("left", "red"), "b": ("right", "a")})
        saying = ("step", ("left", ("and", ("like", "red"), ("or", ("like", "red"), "1"))))
        self.check_alike(thinned_saying(system, system, "a", "b", "0", saying), ("step", ("left", "0")))

    def test_order(self):
        # Nearest is tried ahead of none, and both ahead of the parts; what goes first decides.
        system = made(("both", NAMES, NAMES), {"a": ("red", "blue"), "b": ("blue", "red")})
        one, two = ("like", "red"), ("like", "blue")
        for saying, told in [
            (("step", ("halves", one, two)), ("step", ("halves", "0", two))),
            (("and", ("step", ("halves", one, "0")), ("step", ("halves", "0", two))), ("step", ("halves", one, "0"))),
            (("or", ("step", ("halves", one, two)), ("step", ("halves", one, "0"))), ("step", ("halves", "0", two))),
            (("by", "0", ("step", ("halves", one, "0"))), ("step", ("halves", one, "0"))),
            (("if", "1", ("step", ("halves", one, "0"))), ("step", ("halves", one, "0"))),
            (("and", "0", ("step", ("halves", one, "0"))), ("step", ("halves", one, "0"))),
        ]:
            self.check_alike(thinned_saying(system, system, "a", "b", "0", saying), told)
            self.check_alike(thinned_by_words(system, system, "a", "b", "0", saying), told)

    def test_by_the_words(self):
        chance = random.Random(13)
        seen, shorter = 0, 0
        for one, two in couples(chance, 3, 2):
            scale, kind = one.scale, one.kind
            for x, y in pairs(one, two)[:3]:
                for grade in scale.grades():
                    told = [random_saying(kind, scale, chance, 5) for _ in range(3)]
                    rounds = round_below(one, two, x, y, grade)
                    if rounds is not None and told_size(one, rounds, x) < 50:
                        own = told_saying(one, x, rounds)
                        told += [own, ("or", told[0], own), ("and", own, told[1]), ("or", ("by", scale.none, told[2]), own),
                                 ("if", grade, ("or", ("and", told[0], own), ("and", own, told[1])))]
                    for saying in told:
                        if judge_saying(one, two, x, y, grade, saying) and len(all_parts(kind, saying)) < 70:
                            by_the_words = thinned_by_words(one, two, x, y, grade, saying)
                            self.check_alike(thinned_saying(one, two, x, y, grade, saying), by_the_words)
                            seen += 1
                            shorter += by_the_words != saying
        self.assertTrue(seen > 200 and shorter > 100, (seen, shorter))

    def test_what_it_promises(self):
        chance = random.Random(14)
        count = 0
        for one, two in couples(chance, 4, 3, scales=[COST, SetScale(["p", "q"])]):
            for x, y in pairs(one, two)[:4]:
                grade = one.scale.nearest
                rounds = round_below(one, two, x, y, grade)
                if rounds is not None and told_size(one, rounds, x) <= 400:
                    saying = told_saying(one, x, rounds)
                    told = thinned_saying(one, two, x, y, grade, saying)
                    self.assertTrue(judge_saying(one, two, x, y, grade, told))
                    self.assertLessEqual(len(all_parts(one.kind, told)), len(all_parts(one.kind, saying)))
                    self.check_alike(thinned_saying(one, two, x, y, grade, told), told)
                    self.assertEqual(depth(one.kind, one.scale, told), rounds)
                    count += 1
        self.assertGreater(count, 20)

    def test_long_sayings(self):
        chance = random.Random(15)
        states = list("abcdefgh")
        for kind in (("kept", NEXT), ("kept", ("along", NAMES, NEXT)), ("forth", ("both", NEXT, NEXT))):
            one = random_system(kind, COST, states, chance, 5)
            two = random_system(kind, COST, states, chance, 12)
            longest = None
            for x, y in pairs(one, two):
                rounds = round_below(one, two, x, y, "0")
                if rounds is not None and told_size(one, rounds, x) <= 400:
                    longest = max(longest or (0,), (told_size(one, rounds, x), x, y, rounds))
            if longest is not None:
                _, x, y, rounds = longest
                told = thinned_saying(one, two, x, y, "0", told_saying(one, x, rounds))
                self.assertTrue(judge_saying(one, two, x, y, "0", told))

    def test_bad_sayings(self):
        system = ring(3)
        for value in any_values():
            if value != "0":
                self.check_raises(BadSaying, thinned_saying, system, system, "s0", "s1", "0", value, path=())
                self.check_raises(BadSaying, thinned_saying, system, system, "s0", "s1", "0", ("and", "0", value), path=(1,))
        self.check_raises(BadSaying, thinned_saying, system, system, "s0", "s1", "0", "0", path=())
        self.check_raises(BadSaying, thinned_saying, system, system, "s0", "s0", "0", ("step", ("now", 3)), path=(0,))
        # It has no form: that comes ahead of not parting.
        self.check_raises(BadSaying, thinned_saying, system, system, "s0", "s0", "0", ("or", "0", ("step", 3)), path=(1, 0))
        self.check_raises(BadSaying, thinned_saying, system, system, "s0", "s0", "0", ("step", "0"), path=())


class ErrorTest(Checks, unittest.TestCase):

    CALLS = [(parting, ()), (parting_lines, ()), (judge_saying, (None,)), (judge_lines, (None, None)),
             (thinned_saying, (None,))]

    def test_mixed(self):
        one = ring(2)
        other = made(one.kind, {"a": ("red", "a")}, COST)
        scale = made(("both", ("names", hues(CostScale(1))), NEXT), {"a": ("red", "a")}, CostScale(1))
        kind = made(NEXT, {"a": "a"})
        self.assertIsNone(caught(parting, one, other, "s0", "a", "0"))
        for call, more in self.CALLS:
            self.check_raises(MixedScales, call, one, scale, None, None, None, *more)
            self.check_raises(MixedKinds, call, one, kind, None, None, None, *more)

    def test_states_and_grades(self):
        one = ring(2)
        for call, more in self.CALLS:
            for value in any_values():
                self.check_raises(UnknownState, call, one, one, value, None, None, *more, name=value)
                self.check_raises(UnknownState, call, one, one, "s0", value, None, *more, name=value)
                if value != "0":
                    self.check_raises(UnknownGrade, call, one, one, "s0", "s1", value, *more, name=value)
            self.check_raises(UnknownState, call, one, one, "s2", "s3", "9", *more, name="s2")
            self.check_raises(UnknownState, call, one, one, "s1", "s3", "9", *more, name="s3")
            self.check_raises(UnknownGrade, call, one, one, "s1", "s0", "9", *more, name="9")

    def test_no_states(self):
        none = System(COST, NEXT, [], {})
        for call, more in self.CALLS:
            self.check_raises(UnknownState, call, none, none, "a", "a", "0", *more, name="a")


if __name__ == "__main__":
    unittest.main()
