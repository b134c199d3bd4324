import random
import unittest

from neargrades.finding import Finder
from neargrades.residues import within
from neargrades.rounds import nearness
from neargrades.scales import CostScale, LevelScale, SetScale, StopScale
from neargrades.systems import made_system, steps_of
from tests.nearsamples import couples, let_by, near_scales
from tests.samples import Checks, diamond

COST = CostScale(3)
NEXT = ("next",)


def found(one, two, table, x, y):
    return Finder(one.kind, one.scale, steps_of(one), steps_of(two), table).enough_for(x, y)


def made(kind, steps, scale=COST):
    return made_system(scale, kind, list(steps), steps)


class FinderTest(Checks, unittest.TestCase):
    """What is found is let by, which the papers rest on, and not much more than what is needed."""

    def test_let_by(self):
        chance = random.Random(1)
        fewer = 0
        for one, two in couples(chance, 4, 4, scales=near_scales() + [CostScale(5), LevelScale(3), SetScale(["a", "b", "c"])]):
            table = nearness(one, two)[0]
            lesser = {pair: chance.choice([d for d in one.scale.grades() if within(one.scale, d, grade)])
                      for pair, grade in table.items()}
            while not let_by(one, two, [(*pair, grade) for pair, grade in lesser.items()]):
                del lesser[chance.choice(list(lesser))]
            for rows in (table, lesser):
                for x, y in chance.sample(list(rows), min(3, len(rows))):
                    told = found(one, two, rows, x, y)
                    self.check_alike(told[0], (x, y))
                    self.assertEqual(len(told), len(set(told)))
                    self.assertTrue(let_by(one, two, [(*pair, rows[pair]) for pair in told]))
                    fewer += len(told) < len(rows)
        self.assertGreater(fewer, 100)

    def test_halves_that_are_multiplied(self):
        one = made(("along", NEXT, ("forth", NEXT)), {"a": ("b", [("b", "0")]), "b": ("b", [])})
        two = made(("along", NEXT, ("forth", NEXT)), {"z": ("v", [("u", "2"), ("v", "1")]), "u": ("u", []), "v": ("v", [])})
        table = nearness(one, two)[0]
        self.assertEqual(table[("a", "z")], "1")
        self.check_alike(found(one, two, table, "a", "z"), [("a", "z"), ("b", "v")])
        # The set comes to 2 by (b, v), and to 3 by (b, u), which would do alone, but not beside the other half.
        table = {("a", "z"): "3", ("b", "u"): "1", ("b", "v"): "1"}
        self.assertTrue(let_by(one, two, [(*pair, grade) for pair, grade in table.items()]))
        self.check_alike(found(one, two, table, "a", "z"), [("a", "z"), ("b", "v")])

    def test_one_member_where_one_is_enough(self):
        kind = ("kept", NEXT)
        one = made(kind, {"a": [("b", "0"), ("c", "1")], "b": [], "c": []})
        two = made(kind, {"z": [("u", "1"), ("v", "0"), ("w", "1")], "u": [], "v": [], "w": []})
        table = nearness(one, two)[0]
        self.check_alike(found(one, two, table, "a", "z"), [
            ("a", "z"), ("b", "v"), ("c", "u"), ("b", "u"), ("b", "w")])

    def test_several_members_and_no_more(self):
        scale = SetScale(["p", "q", "r"])
        kind = ("forth", NEXT)
        one = made(kind, {"a": [("b", "pqr")], "b": []}, scale)
        steps = {"z": [("t", "p"), ("u", "q"), ("v", "pq"), ("w", "r")], "t": [], "u": [], "v": [], "w": []}
        two = made(kind, steps, scale)
        self.check_alike(found(one, two, nearness(one, two)[0], "a", "z"), [("a", "z"), ("b", "v"), ("b", "w")])
        table = {**nearness(one, two)[0], ("a", "z"): "pq"}
        self.check_alike(found(one, two, table, "a", "z"), [("a", "z"), ("b", "v")])
        kind = ("back", NEXT)
        one, two = made(kind, {"z": steps["z"], "t": [], "u": [], "v": [], "w": []}, scale), made(
            kind, {"a": [("b", "pqr")], "b": []}, scale)
        self.check_alike(found(one, two, nearness(one, two)[0], "z", "a"), [("z", "a"), ("v", "b"), ("w", "b")])

    def test_what_asks_for_nothing(self):
        scale = diamond()
        one = made(("forth", NEXT), {"a": [("b", "p")], "b": []}, scale)
        two = made(("forth", NEXT), {"z": [("u", "pq")], "u": []}, scale)
        self.check_alike(found(one, two, {("a", "z"): "q", ("b", "u"): "pq"}, "a", "z"), [("a", "z")])
        self.check_alike(found(one, two, {("a", "z"): "0", ("b", "u"): "pq"}, "a", "z"), [("a", "z")])
        self.check_alike(found(one, two, {("a", "z"): "p", ("b", "u"): "pq"}, "a", "z"), [("a", "z"), ("b", "u")])

    def test_sides_and_letters(self):
        kind = ("either", ("row", ("p", "q"), NEXT), ("both", NEXT, NEXT))
        one = made(kind, {"a": ("left", ("b", "c")), "b": ("right", ("c", "b")), "c": ("right", ("c", "c"))},
                   StopScale(1))
        table = nearness(one, one)[0]
        self.check_alike(found(one, one, table, "a", "a"), [("a", "a"), ("b", "b"), ("c", "c")])
        self.check_alike(found(one, one, table, "b", "c"), [("b", "c"), ("c", "c")])


if __name__ == "__main__":
    unittest.main()
