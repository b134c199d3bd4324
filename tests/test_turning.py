import random
import unittest

from neargrades.judging import judge_paper
from neargrades.kinds import check_kind
from neargrades.rounds import nearness
from neargrades.scales import CostScale
from neargrades.spaces import Space
from neargrades.systems import System, made_system
from neargrades.turning import turned_kind, turned_paper, turned_system
from tests.kindsamples import hues, kinds, scales
from tests.nearsamples import ODD_NAMES, STATE_NAMES, couples, pairs, random_system, random_table
from tests.samples import Checks, spoil

COST = CostScale(2)
NEXT = ("next",)
# Not the same both ways.
SPACE = Space(COST, ["q", "p"], [["0", "1"], ["2", "0"]])
TURNED = Space(COST, ["q", "p"], [["0", "2"], ["1", "0"]])


def turned_by_words(kind):
    word = kind[0]
    if word == "names":
        names = kind[1].names()
        return ("names", Space(kind[1].scale, names, [[kind[1].near(b, a) for b in names] for a in names]))
    if word == "next":
        return kind
    if word == "row":
        return ("row", kind[1], turned_by_words(kind[2]))
    return ({"forth": "back", "back": "forth"}.get(word, word),) + tuple(turned_by_words(part) for part in kind[1:])


class KindTest(Checks, unittest.TestCase):

    def test_examples(self):
        names, turned = ("names", SPACE), ("names", TURNED)
        for kind, told in [
            (NEXT, NEXT), (names, turned), (("forth", ("back", NEXT)), ("back", ("forth", NEXT))),
            (("kept", ("forth", names)), ("kept", ("back", turned))),
            (("row", ("b", "a"), ("back", NEXT)), ("row", ("b", "a"), ("forth", NEXT))),
            (("both", names, ("along", NEXT, ("either", ("forth", NEXT), names))),
             ("both", turned, ("along", NEXT, ("either", ("back", NEXT), turned)))),
        ]:
            self.check_alike(turned_kind(kind), told)
            self.check_alike(turned_kind(told), kind)
        self.assertNotEqual(turned_kind(names), names)

    def test_all_kinds(self):
        for scale in scales():
            for kind in kinds(scale):
                told = turned_kind(kind)
                self.check_alike(told, turned_by_words(kind))
                self.assertIsNone(check_kind(told, scale))
                self.check_alike(turned_kind(told), kind)

    def test_spaces_without_names(self):
        kind = ("either", ("names", Space(COST, [], [])), NEXT)
        self.check_alike(turned_kind(kind), kind)


class SystemTest(Checks, unittest.TestCase):

    def test_all_kinds(self):
        chance = random.Random(1)
        for scale in scales():
            for kind in kinds(scale):
                for states in (STATE_NAMES[:3], ODD_NAMES):
                    system = random_system(kind, scale, states, chance)
                    told = turned_system(system)
                    self.assertIs(type(told), System)
                    self.assertTrue(told.scale == scale)
                    self.check_alike(told.kind, turned_by_words(kind))
                    self.check_alike(told.states(), states)
                    self.check_alike([told.step(x) for x in states], [system.step(x) for x in states])
                    self.assertTrue(turned_system(told) == system)
                    spoil(told.states())
                    self.assertEqual(len(told), len(states))

    def test_no_states(self):
        self.assertTrue(turned_system(System(COST, ("forth", NEXT), [], {})) == System(COST, ("back", NEXT), [], {}))


class PaperTest(Checks, unittest.TestCase):

    def test_rows(self):
        self.check_alike(turned_paper(()), ())
        self.check_alike(turned_paper((("a", "b", "1"), ("b", "a", "none"), ("a", "a", "0"))),
                         (("b", "a", "1"), ("a", "b", "none"), ("a", "a", "0")))

    def test_let_by_the_other_way_round(self):
        chance = random.Random(2)
        seen = []
        for one, two in couples(chance, 3, 3):
            near = nearness(one, two)[0]
            for _ in range(4):
                table = random_table(one, two, chance, 0.4)
                paper = tuple((x, y, grade if chance.random() < 0.5 else near[(x, y)]) for (x, y), grade in table.items())
                told = judge_paper(one, two, paper)
                turned = judge_paper(turned_system(two), turned_system(one), turned_paper(paper))
                self.assertEqual(turned, None if told is None else (told[0], told[2], told[1]))
                seen.append(told is None)
        self.assertTrue(10 < sum(seen) < len(seen) - 10)

    def test_nearness_the_other_way_round(self):
        for one, two in couples(random.Random(3), 4, 3):
            near = nearness(one, two)
            turned = nearness(turned_system(two), turned_system(one))
            self.assertEqual(turned, ({(y, x): near[0][(x, y)] for x, y in pairs(one, two)}, near[1]))

    def test_a_space_that_is_not_the_same_both_ways(self):
        one = made_system(COST, ("names", SPACE), ["x"], {"x": "q"})
        two = made_system(COST, ("names", SPACE), ["y"], {"y": "p"})
        self.assertEqual(nearness(one, two)[0], {("x", "y"): "1"})
        self.assertEqual(nearness(turned_system(one), turned_system(two))[0], {("x", "y"): "2"})
        self.assertEqual(hues(COST).near("red", "blue"), "none")


if __name__ == "__main__":
    unittest.main()
