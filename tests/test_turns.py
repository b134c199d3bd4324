import itertools
import random
import unittest

from neargrades.errors import BadName, BadSaying, BadTurn, TwiceTold, UnknownState
from neargrades.judging import judge_paper
from neargrades.kinds import check_kind, kind_at, stones
from neargrades.papers import paper_of
from neargrades.residues import within
from neargrades.rounds import nearness
from neargrades.sayings import check_saying
from neargrades.scales import CostScale, LevelScale, SetScale
from neargrades.spaces import Space
from neargrades.systems import System, made_system, steps_of
from neargrades.turns import (
    all_turns, kind_behind, renamed, renamed_paper, saying_ahead, saying_behind, system_behind, value_behind,
)
from neargrades.values import is_value, value_of
from neargrades.worths import worths
from tests.kindsamples import hues, kinds, random_data, scales, told
from tests.nearsamples import ODD_NAMES, STATE_NAMES, pairs, random_system
from tests.samples import Checks, any_values, share_nothing, spoil
from tests.sayingsamples import STATES, first_bad, random_saying

COST = CostScale(2)
NEXT = ("next",)
NAMES = ("names", hues(COST))
DEEP = ("kept", ("both", ("either", NAMES, NEXT), ("row", ("p", "q", "r"), ("forth", ("along", NEXT, NAMES)))))


def turns_of(kind, chance):
    """All turns that all_turns tells, all orders, and some names."""
    found = list(all_turns(kind))
    for path, word in stones(kind):
        stone = kind_at(kind, path)
        if word == "row":
            found += [("order", path, order) for order in itertools.permutations(range(len(stone[1])))]
        if word == "names":
            names = stone[1].names()
            found.append(("names", path, tuple(names[1:] + names[:1])))
            found.append(("names", path, tuple(f"n{chance.randrange(100)}x{k}" for k in range(len(names)))))
    return found


def no_drops(kind, chance):
    return [turn for turn in turns_of(kind, chance) if turn[0] != "drop"]


# By the words of S9.3: what becomes of a stone, and of a value of it.

def stone_by_words(stone, turn):
    word = turn[0]
    if word in ("swap", "sides"):
        return (stone[0], stone[2], stone[1])
    if word == "order":
        return ("row", tuple(stone[1][k] for k in turn[2]), stone[2])
    if word == "names":
        elder = stone[1].names()
        return ("names", Space(stone[1].scale, list(turn[2]), [[stone[1].near(a, b) for b in elder] for a in elder]))
    if stone[0] == "row":
        return ("row", stone[1][:turn[2]] + stone[1][turn[2] + 1:], stone[2])
    return stone[2 - turn[2]]


def value_by_words(stone, value, turn):
    word = turn[0]
    if word == "swap":
        return (value[1], value[0])
    if word == "sides":
        return ({"left": "right", "right": "left"}[value[0]], value[1])
    if word == "order":
        return tuple(value[k] for k in turn[2])
    if word == "names":
        return dict(zip(stone[1].names(), turn[2]))[value]
    if stone[0] == "row":
        return value[:turn[2]] + value[turn[2] + 1:]
    return value[1 - turn[2]]


def kind_by_words(kind, turn, path=()):
    if path == turn[1]:
        return stone_by_words(kind, turn)
    if kind[0] in ("names", "next"):
        return kind
    if kind[0] == "row":
        return ("row", kind[1], kind_by_words(kind[2], turn, path + (0,)))
    return (kind[0],) + tuple(kind_by_words(part, turn, path + (k,)) for k, part in enumerate(kind[1:]))


def data_by_words(kind, value, turn, path=()):
    """Goes through the whole value; the path tells where it is."""
    word = kind[0]
    if path == turn[1]:
        return value_by_words(kind, value, turn)
    if word in ("names", "next"):
        return value
    if word in ("both", "along"):
        return tuple(data_by_words(kind[1 + k], value[k], turn, path + (k,)) for k in (0, 1))
    if word == "either":
        k = 0 if value[0] == "left" else 1
        return (value[0], data_by_words(kind[1 + k], value[1], turn, path + (k,)))
    if word == "row":
        return tuple(data_by_words(kind[2], inner, turn, path + (0,)) for inner in value)
    return [(data_by_words(kind[1], inner, turn, path + (0,)), grade) for inner, grade in value]


def behind_by_words(kind, saying, turn, place=STATES):
    """S9.5: place is STATES, or the path of the kind whose values the saying is about."""
    if isinstance(saying, str):
        return saying
    word = saying[0]

    def inner(part, at):
        return behind_by_words(kind, part, turn, at)

    if word in ("and", "or"):
        return (word, inner(saying[1], place), inner(saying[2], place))
    if word in ("by", "if"):
        return (word, saying[1], inner(saying[2], place))
    if word == "step":
        return ("step", inner(saying[1], ()))
    if word == "now":
        return ("now", inner(saying[1], STATES))
    there = place == turn[1]
    if word == "like":
        names = kind_at(kind, place)[1].names()
        return ("like", turn[2][names.index(saying[1])]) if there else saying
    if word in ("left", "right"):
        k = 0 if word == "left" else 1
        side = ("right", "left")[k] if there else word
        return (side, inner(saying[1], place + (k,)))
    if word == "halves":
        halves = [inner(saying[1], place + (0,)), inner(saying[2], place + (1,))]
        return ("halves", *(halves[::-1] if there else halves))
    parts = [inner(part, place + (0,)) for part in saying[1:]]
    return (word, *([parts[k] for k in turn[2]] if there else parts))


class KindTest(Checks, unittest.TestCase):

    def test_examples(self):
        two = ("names", Space(COST, ["x", "y", "z"], [[NAMES[1].near(a, b) for b in NAMES[1].names()] for a in NAMES[1].names()]))
        for kind, turn, behind in [
            (("both", NAMES, NEXT), ("swap", ()), ("both", NEXT, NAMES)),
            (("along", NAMES, NEXT), ("swap", ()), ("along", NEXT, NAMES)),
            (("either", NAMES, NEXT), ("sides", ()), ("either", NEXT, NAMES)),
            (("row", ("a", "b", "c"), NEXT), ("order", (), (2, 0, 1)), ("row", ("c", "a", "b"), NEXT)),
            (("row", ("a",), NEXT), ("order", (), (0,)), ("row", ("a",), NEXT)),
            (("both", NAMES, NEXT), ("drop", (), 0), NEXT), (("along", NAMES, NEXT), ("drop", (), 1), NAMES),
            (("row", ("a", "b"), NEXT), ("drop", (), 0), ("row", ("b",), NEXT)),
            (("row", ("a", "b", "c"), NEXT), ("drop", (), 1), ("row", ("a", "c"), NEXT)),
            (NAMES, ("names", (), ("x", "y", "z")), two),
            (("kept", ("both", NAMES, NAMES)), ("names", (0, 1), ("x", "y", "z")), ("kept", ("both", NAMES, two))),
            (("forth", ("both", NEXT, ("back", NAMES))), ("drop", (0,), 0), ("forth", ("back", NAMES))),
            (("either", ("both", NEXT, NEXT), ("both", NAMES, NEXT)), ("swap", (1,)), (
                "either", ("both", NEXT, NEXT), ("both", NEXT, NAMES))),
        ]:
            self.check_alike(kind_behind(kind, turn), behind)

    def test_by_the_words(self):
        chance = random.Random(1)
        for scale in scales():
            for kind in kinds(scale) + [("both", ("row", ("p", "q"), ("both", NEXT, NEXT)), ("either", NEXT, NEXT))]:
                for turn in turns_of(kind, chance):
                    self.check_alike(kind_behind(kind, turn), kind_by_words(kind, turn))
                    self.assertIsNone(check_kind(kind_behind(kind, turn), scale))

    def test_there_and_back(self):
        chance = random.Random(2)
        for kind in kinds(COST) + [DEEP]:
            for turn in all_turns(kind):
                if turn[0] in ("swap", "sides", "order"):
                    self.check_alike(kind_behind(kind_behind(kind, turn), turn), kind)
            self.assertEqual(len(set(turns_of(kind, chance))) >= len(all_turns(kind)), True)


class BadTurnTest(Checks, unittest.TestCase):

    STONES = [NAMES, NEXT, ("both", NEXT, NAMES), ("along", NEXT, NEXT), ("either", NEXT, NAMES), ("row", ("p",), NEXT),
              ("row", ("p", "q"), NEXT), ("row", ("p", "q", "r"), NEXT), ("forth", NEXT), ("back", NEXT), ("kept", NEXT)]
    RIGHT = {
        "names": [("names", ("x", "y", "z"))], "both": [("swap",), ("drop", 0), ("drop", 1)],
        "along": [("swap",), ("drop", 0), ("drop", 1)], "either": [("sides",)],
    }
    TRIED = [
        ("swap",), ("sides",), ("drop", 0), ("drop", 1), ("drop", 2), ("drop", 3), ("drop", -1), ("order", (0,)), ("order", (0, 1)),
        ("order", (1, 0)), ("order", (2, 1, 0)), ("order", ()), ("names", ()), ("names", ("x", "y", "z")), ("names", ("x", "y")),
    ]

    def rights(self, stone):
        if stone[0] == "row":
            count = len(stone[1])
            drops = [("drop", k) for k in range(count)] if count > 1 else []
            return drops + [("order", order) for order in itertools.permutations(range(count))]
        return self.RIGHT.get(stone[0], [])

    def check_bad(self, kind, turn):
        scale = COST
        self.check_raises(BadTurn, kind_behind, kind, turn)
        value = None
        self.check_raises(BadTurn, value_behind, kind, scale, ["a"], value, turn)
        system = System(scale, kind, [], {})
        self.check_raises(BadTurn, system_behind, system, turn)
        self.check_raises(BadTurn, saying_behind, kind, scale, None, turn)
        self.check_raises(BadTurn, saying_ahead, kind, scale, None, turn)

    def test_each_turn_at_each_stone(self):
        for stone in self.STONES:
            for kind, path in [(stone, ()), (("kept", stone), (0,)), (("both", NAMES, ("row", ("u",), stone)), (1, 0))]:
                for word, *more in self.TRIED:
                    if (word, *more) in self.rights(stone):
                        self.check_alike(kind_behind(kind, (word, path, *more)), kind_by_words(kind, (word, path, *more)))
                    else:
                        self.check_bad(kind, (word, path, *more))

    def test_paths(self):
        kind = ("both", ("row", ("p", "q"), NEXT), ("either", NEXT, NEXT))
        self.check_alike(kind_behind(kind, ("sides", (1,))), kind)
        for path in [(0,), (2,), (-1,), (True,), (False,), (1, 0), (1, 0, 0), ("1",), (None,), ([1],), ((1,),), [1], 1, None, "1", {},
                     (1.0,), True, (10 ** 30,)]:
            self.check_bad(kind, ("sides", path))
        for path in [(True,), (0, True), (False, 0), [0]]:
            self.check_bad(kind, ("order", path, (1, 0)))

    def test_orders(self):
        kind = ("row", ("p", "q", "r"), NEXT)
        for order in [(0, 1), (0, 1, 2, 3), (0, 1, 1), (0, 0, 1), (1, 2, 3), (-1, 0, 1), (0, True, 2), (False, 1, 2), [0, 1, 2], "012",
                      ("0", "1", "2"), (0, 1, None), (0, 1, [2]), (0, 1, (2,)), None, 3, (0, 1, 2.0), {0: 0, 1: 1, 2: 2}, ()]:
            self.check_bad(kind, ("order", (), order))
        self.check_bad(("row", ("p", "q"), NEXT), ("order", (), (True, False)))
        self.check_bad(("row", ("p", "q"), NEXT), ("order", (), (1, False)))

    def test_drops(self):
        for kind in (("both", NEXT, NEXT), ("along", NEXT, NEXT), ("row", ("p", "q"), NEXT)):
            for number in [2, 3, -1, True, False, None, "0", [0], (0,), (), 0.0, 10 ** 30, {}]:
                self.check_bad(kind, ("drop", (), number))

    def test_names(self):
        for word in ("name", "Names", None, ["names"], ("names",), "drop", "order", "swap", "sides"):
            self.check_bad(NAMES, (word, (), ("x", "y", "z")))
        for names in [("x", "y"), ("x", "y", "z", "w"), ("x", "y", "z", "x"), ("x", "x", "y", "z"), ("x", "y", "x"), ("x", "y", "Z"), ("x", "y", ""), ("x", "y", "1a"),
                      ("x", "y", "abcdefghijklm"), ["x", "y", "z"], "xyz", ("x", "y", None), ("x", "y", ["z"]), ("x", "y", ("z",)),
                      None, {}, (), ("x", "y", True), {"x": 1, "y": 2, "z": 3}]:
            self.check_bad(NAMES, ("names", (), names))
        empty = ("names", Space(COST, [], []))
        self.check_alike(kind_behind(empty, ("names", (), ())), empty)
        self.check_bad(empty, ("names", (), []))

    def test_one_item_more_or_less(self):
        for kind in (NAMES, ("both", NEXT, NEXT), ("either", NEXT, NEXT), ("row", ("p", "q", "r"), NEXT), ("kept", NEXT), NEXT):
            for turn in [("swap", (), ()), ("swap", (), 0), ("sides", (), ()), ("sides", (), 0), ("sides", (), None), ("drop", ()),
                         ("drop", (), 0, 0), ("drop", (), 0, None), ("order", ()), ("order", (), (0, 1, 2), 0), ("names", ()),
                         ("names", (), ("x", "y", "z"), ()), ("names", (), "x", "y", "z"), ("order", (), 0, 1, 2)]:
                self.check_bad(kind, turn)

    def test_any_values(self):
        kind = ("both", NEXT, NEXT)
        wrong = any_values() + [
            ["swap", ()], ("swap",), ("swap", (), ()), ("swap", (), 0), ("swap", ()) * 2, ("Swap", ()), (["swap"], ()), (("swap",), ()),
            (None, ()), ("drop", ()), ("drop", (), 0, 0), ("drop",), "swap", ("",  ()), ({}, ()), (True, ()), ("order", (), (1, 0)),
        ]
        for turn in wrong:
            self.check_bad(kind, turn)

    def test_no_drop_for_sayings_behind(self):
        for kind, turn in [(("both", NEXT, NEXT), ("drop", (), 0)), (("row", ("p", "q"), NEXT), ("drop", (), 1))]:
            for saying in (None, "0", ("step", "0")):
                self.check_raises(BadTurn, saying_behind, kind, COST, saying, turn)
            self.check_alike(saying_ahead(kind, COST, "0", turn), "0")


class ValueTest(Checks, unittest.TestCase):

    def test_examples(self):
        states = ["a", "b"]
        for kind, value, turn, behind in [
            (("both", NAMES, NEXT), ("red", "a"), ("swap", ()), ("a", "red")),
            (("either", NAMES, NEXT), ("left", "red"), ("sides", ()), ("right", "red")),
            (("either", NAMES, NEXT), ("right", "a"), ("sides", ()), ("left", "a")),
            (("row", ("p", "q", "r"), NEXT), ("a", "b", "b"), ("order", (), (1, 2, 0)), ("b", "b", "a")),
            (("row", ("p", "q"), NEXT), ("a", "b"), ("drop", (), 0), ("b",)),
            (("both", NAMES, NEXT), ("red", "a"), ("drop", (), 0), "a"),
            (("both", NAMES, NEXT), ("red", "a"), ("drop", (), 1), "red"),
            (NAMES, "blue", ("names", (), ("x", "y", "z")), "y"),
            (("either", ("both", NEXT, NEXT), ("both", NEXT, NEXT)), ("left", ("a", "b")), ("swap", (1,)), ("left", ("a", "b"))),
            (("either", ("both", NEXT, NEXT), ("both", NEXT, NEXT)), ("right", ("a", "b")), ("swap", (1,)), ("right", ("b", "a"))),
            (("kept", ("both", NEXT, NEXT)), ((("a", "b"), "1"), (("b", "a"), "2")), ("swap", (0,)),
             ((("a", "b"), "2"), (("b", "a"), "1"))),
            (("kept", ("both", NEXT, NEXT)), ((("a", "a"), "2"), (("a", "b"), "1"), (("b", "a"), "0")), ("drop", (0,), 1),
             (("a", "1"), ("b", "0"))),
        ]:
            self.assertTrue(is_value(kind, COST, states, value))
            self.check_alike(value_behind(kind, COST, states, value, turn), behind)

    def test_by_the_words(self):
        chance = random.Random(3)
        for scale in scales():
            for kind in kinds(scale):
                for states in (STATE_NAMES[:3], tuple(ODD_NAMES[:2])):
                    value = value_of(kind, scale, states, random_data(kind, scale, states, chance))
                    for turn in turns_of(kind, chance):
                        behind = told(kind_by_words(kind, turn), scale, states, data_by_words(kind, value, turn))
                        self.check_alike(value_behind(kind, scale, states, value, turn), behind)

    def test_deep_ones(self):
        chance = random.Random(4)
        for _ in range(10):
            value = value_of(DEEP, COST, STATE_NAMES, random_data(DEEP, COST, STATE_NAMES, chance))
            for turn in turns_of(DEEP, chance):
                behind = told(kind_by_words(DEEP, turn), COST, STATE_NAMES, data_by_words(DEEP, value, turn))
                self.check_alike(value_behind(DEEP, COST, STATE_NAMES, value, turn), behind)


class SystemTest(Checks, unittest.TestCase):

    def couples(self, chance):
        for scale in (COST, SetScale(["p", "q"]), LevelScale(2)):
            for kind in kinds(scale) + [("row", ("a", "b"), ("along", NEXT, ("kept", NEXT)))]:
                yield random_system(kind, scale, STATE_NAMES[:3], chance), random_system(kind, scale, ODD_NAMES[:2], chance)

    def test_by_the_words(self):
        chance = random.Random(5)
        for system, _ in self.couples(chance):
            for turn in turns_of(system.kind, chance):
                behind = system_behind(system, turn)
                self.assertIs(type(behind), System)
                self.assertTrue(behind.scale == system.scale)
                self.check_alike(behind.kind, kind_by_words(system.kind, turn))
                self.check_alike(behind.states(), system.states())
                self.check_alike(steps_of(behind), {
                    x: value_behind(system.kind, system.scale, system.states(), system.step(x), turn) for x in system.states()})

    def test_nearness_and_papers(self):
        chance = random.Random(6)
        more = 0
        for one, two in self.couples(chance):
            table = nearness(one, two)[0]
            paper = paper_of(one, two, pairs(one, two))
            other = tuple((x, y, chance.choice(one.scale.grades())) for x, y, _ in paper)
            for turn in turns_of(one.kind, chance):
                turned = system_behind(one, turn), system_behind(two, turn)
                behind = nearness(*turned)[0]
                self.assertIsNone(judge_paper(*turned, paper))
                if judge_paper(one, two, other) is None:
                    self.assertIsNone(judge_paper(*turned, other))
                if turn[0] == "drop":
                    self.assertTrue(all(within(one.scale, grade, behind[pair]) for pair, grade in table.items()))
                    more += behind != table
                else:
                    self.check_alike(behind, table)
        self.assertGreater(more, 5)

    def test_no_states(self):
        none = System(COST, ("both", NEXT, NEXT), [], {})
        self.assertTrue(system_behind(none, ("drop", (), 0)) == System(COST, NEXT, [], {}))


class SayingTest(Checks, unittest.TestCase):

    def test_behind_examples(self):
        one, two, = ("like", "red"), ("now", "1")
        for kind, turn, saying, behind in [
            (("both", NAMES, NEXT), ("swap", ()), ("step", ("halves", one, two)), ("step", ("halves", two, one))),
            (("along", NAMES, NEXT), ("swap", ()), ("step", ("and", ("halves", one, two), "1")), (
                "step", ("and", ("halves", two, one), "1"))),
            (("either", NAMES, NEXT), ("sides", ()), ("step", ("or", ("left", one), ("right", two))), (
                "step", ("or", ("right", one), ("left", two)))),
            (("row", ("p", "q", "r"), NAMES), ("order", (), (2, 0, 1)), ("step", ("rows", "0", one, "1")), (
                "step", ("rows", "1", "0", one))),
            (NAMES, ("names", (), ("x", "y", "z")), ("step", ("if", "1", ("like", "blue"))), ("step", ("if", "1", ("like", "y")))),
            (("both", NAMES, NAMES), ("names", (1,), ("x", "y", "z")), ("step", ("halves", one, one)), (
                "step", ("halves", one, ("like", "x")))),
            (("either", NAMES, NEXT), ("sides", ()), ("and", "1", ("step", "2")), ("and", "1", ("step", "2"))),
        ]:
            self.check_alike(saying_behind(kind, COST, saying, turn), behind)
            self.check_alike(saying_ahead(kind, COST, behind, turn), saying)
        # Wherever they are about values at the path: also behind "now".
        kind = ("both", NAMES, NEXT)
        saying = ("step", ("halves", "0", ("now", ("step", ("halves", one, two)))))
        self.check_alike(saying_behind(kind, COST, saying, ("swap", ())), (
            "step", ("halves", ("now", ("step", ("halves", two, one))), "0")))

    def test_ahead_of_a_drop_of_a_half(self):
        one = ("like", "red")
        kind = ("both", NAMES, NEXT)
        for saying, ahead in [
            ("1", "1"), (("and", "1", ("step", "2")), ("and", "1", ("step", ("halves", "2", "0")))),
            (("step", one), ("step", ("halves", one, "0"))),
            (("step", ("and", one, ("by", "1", "2"))), ("step", ("halves", ("and", one, ("by", "1", "2")), "0"))),
            (("or", ("step", one), ("step", ("if", "1", one))), (
                "or", ("step", ("halves", one, "0")), ("step", ("halves", ("if", "1", one), "0")))),
        ]:
            self.check_alike(saying_ahead(kind, COST, saying, ("drop", (), 1)), ahead)
        for saying, ahead in [
            (("step", "1"), ("step", ("halves", "0", "1"))),
            (("step", ("now", ("step", ("now", "2")))), (
                "step", ("halves", "0", ("now", ("step", ("halves", "0", ("now", "2"))))))),
            (("step", ("or", ("now", ("step", "2")), "1")), (
                "step", ("halves", "0", ("or", ("now", ("step", ("halves", "0", "2"))), "1")))),
        ]:
            self.check_alike(saying_ahead(kind, COST, saying, ("drop", (), 0)), ahead)

    def test_ahead_of_a_drop_at_a_path(self):
        one = ("like", "red")
        kind = ("kept", ("row", ("p", "q"), ("along", NAMES, NAMES)))
        turn = ("drop", (0, 0), 0)
        for saying, ahead in [
            (("step", "1"), ("step", "1")), (("step", ("some", "1")), ("step", ("some", "1"))),
            (("step", ("all", ("rows", "1", one))), ("step", ("all", ("rows", ("halves", "0", "1"), ("halves", "0", one))))),
            (("step", ("some", ("and", "1", ("rows", ("and", one, "2"), "none")))), (
                "step", ("some", ("and", "1", ("rows", ("halves", "0", ("and", one, "2")), ("halves", "0", "none")))))),
        ]:
            self.check_alike(saying_ahead(kind, COST, saying, turn), ahead)
        # The half that stayed is of the same word as what went.
        kind = ("both", ("both", NEXT, NAMES), NAMES)
        self.check_alike(saying_ahead(kind, COST, ("step", ("halves", "1", ("and", one, "2"))), ("drop", (), 1)), (
            "step", ("halves", ("halves", "1", ("and", one, "2")), "0")))

    def test_ahead_of_a_drop_of_a_letter(self):
        one = ("like", "red")
        kind = ("row", ("p", "q", "r"), NAMES)
        for number, saying, ahead in [
            (0, ("rows", one, "1"), ("rows", "0", one, "1")), (1, ("rows", one, "1"), ("rows", one, "0", "1")),
            (2, ("rows", one, "1"), ("rows", one, "1", "0")), (1, "2", "2"), (0, ("and", "1", ("rows", "1", "2")), (
                "and", "1", ("rows", "0", "1", "2"))),
        ]:
            self.check_alike(saying_ahead(kind, COST, ("step", saying), ("drop", (), number)), ("step", ahead))
        kind = ("row", ("p", "q"), ("row", ("u", "v"), NAMES))
        saying = ("step", ("rows", ("rows", one), "1"))
        self.check_alike(saying_ahead(kind, COST, saying, ("drop", (0,), 1)), (
            "step", ("rows", ("rows", one, "0"), "1")))
        saying = ("step", ("rows", ("rows", one, "1")))
        self.check_alike(saying_ahead(kind, COST, saying, ("drop", (), 0)), ("step", ("rows", "0", ("rows", one, "1"))))

    def test_behind_by_the_words(self):
        chance = random.Random(7)
        for scale in scales():
            for kind in kinds(scale):
                for turn in no_drops(kind, chance):
                    for _ in range(2):
                        saying = random_saying(kind, scale, chance, 7)
                        behind = saying_behind(kind, scale, saying, turn)
                        self.check_alike(behind, behind_by_words(kind, saying, turn))
                        self.assertIsNone(check_saying(kind_behind(kind, turn), scale, behind))
                        self.check_alike(saying_ahead(kind, scale, behind, turn), saying)

    def test_worths(self):
        chance = random.Random(8)
        seen = {}
        for scale in (COST, SetScale(["p", "q"]), LevelScale(2)):
            for kind in kinds(scale) + [("row", ("a", "b", "c"), ("along", ("both", NEXT, NEXT), ("kept", NEXT)))]:
                system = random_system(kind, scale, STATE_NAMES[:3], chance)
                for turn in turns_of(kind, chance):
                    behind = system_behind(system, turn)
                    for _ in range(3):
                        saying = random_saying(behind.kind, scale, chance, 7)
                        ahead = saying_ahead(kind, scale, saying, turn)
                        self.assertIsNone(check_saying(kind, scale, ahead))
                        self.check_alike(worths(system, ahead), worths(behind, saying))
                        seen[turn[0]] = seen.get(turn[0], 0) + 1
                        if turn[0] != "drop":
                            saying = random_saying(kind, scale, chance, 7)
                            self.check_alike(worths(behind, saying_behind(kind, scale, saying, turn)), worths(system, saying))
        self.assertTrue(min(seen.values()) > 20 and len(seen) == 5, seen)

    def test_bad_sayings(self):
        chance = random.Random(9)
        for kind in kinds(COST):
            for turn in turns_of(kind, chance):
                turned = kind_behind(kind, turn)
                for value in any_values() + [("like", "red"), ("step", ("like", "red")), ("step", ("rows", "0")), ("step", (
                        "rows", "0", "0")), ("step", ("halves", "0", "0")), ("step", ("left", "0")), ("and", "0", "9")]:
                    path = first_bad(turned, COST, value)
                    if path is not None:
                        self.check_raises(BadSaying, saying_ahead, kind, COST, value, turn, path=path)
                    path = first_bad(kind, COST, value)
                    if turn[0] != "drop" and path is not None:
                        self.check_raises(BadSaying, saying_behind, kind, COST, value, turn, path=path)

    def test_deep_sayings(self):
        kind = ("both", NAMES, NEXT)
        saying, ahead, turned = "1", "1", "1"
        for _ in range(150):
            saying = ("step", ("halves", "2", ("now", saying)))
            turned = ("step", ("halves", ("now", turned), "2"))
            ahead = ("step", ("now", ahead))
        self.check_alike(saying_behind(kind, COST, saying, ("swap", ())), turned)
        self.check_alike(saying_ahead(kind, COST, turned, ("swap", ())), saying)
        told_ahead = saying_ahead(kind, COST, ahead, ("drop", (), 0))
        self.assertEqual(repr(told_ahead).count("halves"), 150)


class AllTurnsTest(Checks, unittest.TestCase):

    def test_examples(self):
        self.check_alike(all_turns(NEXT), [])
        self.check_alike(all_turns(NAMES), [])
        self.check_alike(all_turns(("kept", NEXT)), [])
        self.check_alike(all_turns(("row", ("p",), NEXT)), [])
        self.check_alike(all_turns(("row", ("p", "q"), NEXT)), [("order", (), (1, 0)), ("drop", (), 0), ("drop", (), 1)])
        self.check_alike(all_turns(DEEP), [
            ("swap", (0,)), ("drop", (0,), 0), ("drop", (0,), 1), ("sides", (0, 0)), ("order", (0, 1), (1, 0, 2)),
            ("order", (0, 1), (0, 2, 1)), ("drop", (0, 1), 0), ("drop", (0, 1), 1), ("drop", (0, 1), 2),
            ("swap", (0, 1, 0, 0)), ("drop", (0, 1, 0, 0), 0), ("drop", (0, 1, 0, 0), 1)])

    def test_they_are_turns(self):
        for kind in kinds(COST) + [DEEP]:
            for turn in all_turns(kind):
                self.assertIsNone(check_kind(kind_behind(kind, turn), COST))
            self.assertTrue(share_nothing(all_turns(kind), all_turns(kind)))


class RenamedTest(Checks, unittest.TestCase):

    def system(self):
        return System(COST, ("forth", NEXT), ["b", "a", "c"], {"b": [("a", "1"), ("c", "2")], "a": [("b", "0")], "c": []})

    def test_exchanged_names(self):
        told_behind = renamed(self.system(), {"a": "b", "b": "a", "c": "c"})
        self.check_alike(told_behind.states(), ["a", "b", "c"])
        self.check_alike(steps_of(told_behind), {"a": (("b", "1"), ("c", "2")), "b": (("a", "0"),), "c": ()})
        told_behind = renamed(self.system(), {"c": "x", "a": "z", "b": "y", "other": None, "d": "x"})
        self.check_alike(told_behind.states(), ["y", "z", "x"])

    def test_nearness_goes_along(self):
        chance = random.Random(10)
        for kind in kinds(COST):
            one, two = random_system(kind, COST, STATE_NAMES[:3], chance), random_system(kind, COST, ODD_NAMES[:2], chance)
            images = dict(zip(one.states(), chance.sample(["a", "b", "c", "d1", "e22"], 3)))
            others = dict(zip(two.states(), chance.sample(["a", "b", "c", "d1", "e22"], 2)))
            behind = renamed(one, images), renamed(two, others)
            table = nearness(one, two)[0]
            self.check_alike(nearness(*behind)[0], {(images[x], others[y]): grade for (x, y), grade in table.items()})
            self.check_alike(behind[0].states(), [images[x] for x in one.states()])
            paper = paper_of(one, two, pairs(one, two))
            turned = renamed_paper(paper, images, others)
            self.check_alike(turned, tuple((images[x], others[y], grade) for x, y, grade in paper))
            self.assertIsNone(judge_paper(*behind, turned))
            self.assertTrue(renamed(behind[0], {image: image for image in images.values()}) == behind[0])

    def test_errors(self):
        system = self.system()
        self.check_raises(UnknownState, renamed, system, {}, name="b")
        self.check_raises(UnknownState, renamed, system, {"b": None, "c": None}, name="a")
        self.check_raises(UnknownState, renamed, system, {"b": "x", "a": "x"}, name="c")
        for value in any_values():
            if value != "zz":
                self.check_raises(BadName, renamed, system, {"b": "x", "a": value, "c": "x"}, name=value)
                self.check_raises(BadName, renamed, system, {"c": "3", "a": value, "b": "x"}, name=value)
        self.check_raises(TwiceTold, renamed, system, {"b": "x", "a": "y", "c": "x"}, name="x")
        self.check_raises(TwiceTold, renamed, system, {"b": "x", "a": "x", "c": "y"}, name="x")
        self.check_raises(TwiceTold, renamed, system, {"b": "c", "a": "a", "c": "c"}, name="c")

    def test_no_states(self):
        none = System(COST, NEXT, [], {})
        self.assertTrue(renamed(none, {}) == none)
        self.assertTrue(renamed(none, {"a": None}) == none)
        self.check_alike(renamed_paper((), {}, {}), ())

    def test_states_that_are_no_words(self):
        system = made_system(COST, NEXT, ["", "A b"], {"": "A b", "A b": "A b"})
        self.assertTrue(renamed(system, {"": "x", "A b": "y"}) == System(COST, NEXT, ["x", "y"], {"x": "y", "y": "y"}))

    def test_papers(self):
        paper = (("a", "b", "1"), ("b", "b", "none"), ("a", "a", "0"))
        self.check_alike(renamed_paper(paper, {"a": "x", "b": "y"}, {"a": "y", "b": "x"}), (
            ("x", "x", "1"), ("y", "x", "none"), ("x", "y", "0")))
        self.check_raises(UnknownState, renamed_paper, paper, {"a": "x"}, {"b": "x"}, name="b")
        self.check_raises(UnknownState, renamed_paper, paper, {"a": "x"}, {"a": "x"}, name="b")
        self.check_raises(UnknownState, renamed_paper, paper, {}, {}, name="a")
        self.check_raises(UnknownState, renamed_paper, paper, {"a": "x", "b": "y"}, {"b": "x"}, name="a")

    def test_nothing_is_changed_or_kept(self):
        images = {"a": "b", "b": "a", "c": "c"}
        told_behind = renamed(self.system(), images)
        self.check_alike(images, {"a": "b", "b": "a", "c": "c"})
        spoil(images)
        spoil(told_behind.states())
        self.check_alike(told_behind.states(), ["a", "b", "c"])


if __name__ == "__main__":
    unittest.main()
