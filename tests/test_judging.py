import random
import unittest

from neargrades.errors import BadPaper, MixedKinds, MixedScales
from neargrades.judging import judge_paper, paper_table
from neargrades.residues import within
from neargrades.rounds import nearness
from neargrades.scales import CostScale, StopScale
from neargrades.systems import System, made_system
from tests.nearsamples import any_system, couples, let_by, lift, pairs
from tests.samples import Checks, any_values, share_nothing, spoil

COST = CostScale(2)
NEXT = ("next",)


def chain():
    """Each state leads to the next one, the last one to itself; no two are told apart."""
    return System(COST, NEXT, ["a", "b", "c"], {"a": "b", "b": "c", "c": "c"})


def first_open(one, two, rows):
    table = {(x, y): grade for x, y, grade in rows}
    for x, y, grade in rows:
        if not within(one.scale, grade, lift(one.kind, one.scale, table, one.step(x), two.step(y))):
            return ("open", x, y)
    return None


class JudgeTest(Checks, unittest.TestCase):

    def test_examples(self):
        one = chain()
        self.assertIsNone(judge_paper(one, one, ()))
        self.assertIsNone(judge_paper(one, one, (("a", "b", "none"),)))
        self.assertIsNone(judge_paper(one, one, (("c", "c", "0"),)))
        self.assertIsNone(judge_paper(one, one, (("a", "b", "2"), ("c", "c", "0"), ("b", "c", "1"))))
        self.check_alike(judge_paper(one, one, (("a", "b", "0"), ("b", "c", "1"), ("c", "c", "0"))), ("open", "a", "b"))
        self.check_alike(judge_paper(one, one, (("c", "c", "0"), ("b", "c", "1"), ("b", "b", "0"), ("a", "a", "0"),
                                                ("a", "c", "0"))), ("open", "a", "c"))
        self.check_alike(judge_paper(one, one, (("b", "b", "2"), ("a", "b", "2"))), ("open", "b", "b"))
        self.check_alike(judge_paper(one, one, (("b", "b", "2"), ("a", "b", "2"), ("c", "c", "none"))),
                         ("open", "b", "b"))

    def test_by_the_words(self):
        chance = random.Random(1)
        seen = set()
        for one, two in couples(chance, 3, 3):
            everything = pairs(one, two)
            table = nearness(one, two)[0]
            for _ in range(6):
                chosen = chance.sample(everything, chance.randrange(len(everything) + 1))
                rows = tuple((x, y, table[(x, y)] if chance.random() < 0.8 else chance.choice(one.scale.grades()))
                             for x, y in chosen)
                told = judge_paper(one, two, rows)
                self.check_alike(told, first_open(one, two, rows))
                self.assertEqual(told is None, let_by(one, two, rows))
                self.check_alike(paper_table(one, two, rows), {(x, y): grade for x, y, grade in rows})
                seen.add((told is None, len(rows)))
                if told is None:
                    self.assertTrue(all(within(one.scale, grade, table[(x, y)]) for x, y, grade in rows))
        self.assertGreater(len(seen), 12)

    def test_the_nearness_is_let_by(self):
        for one, two in couples(random.Random(2), 4, 4):
            rows = tuple((x, y, grade) for (x, y), grade in nearness(one, two)[0].items())
            self.assertIsNone(judge_paper(one, two, rows))

    def test_rows_that_are_none(self):
        one, two = chain(), System(COST, NEXT, ["z"], {"z": "z"})
        right = (("c", "z", "0"), ("a", "z", "0"))  # open, but wrong rows come first
        for row in any_values() + [
            ("b", "z"), ("b", "z", "0", "0"), ["b", "z", "0"], (("b", "z"), "0"), "bz0", ("z", "b", "0"), ("b", "b", "0"),
            ("z", "z", "0"), ("b", "z", "3"), ("b", "z", 0), ("b", "z", None), ("b", "z", ["0"]), (["b"], "z", "0"),
            ("b", {}, "0"), (True, "z", "0"), ("c", "z", "1"), ("a", "z", "none"), ("a", "z", "0"),
        ]:
            self.check_alike(judge_paper(one, two, right + (row, None)), ("row", 2))
            self.check_raises(BadPaper, paper_table, one, two, right + (row,))
            self.check_raises(BadPaper, paper_table, one, two, (row,) * 2)
        self.check_alike(judge_paper(one, two, (None,) + right), ("row", 0))
        self.check_alike(judge_paper(one, two, right[:1] + (("b", "z", "0"), ("b", "z", "0"), None)), ("row", 2))

    def test_what_is_no_tuple(self):
        one = chain()
        for value in any_values() + [[("a", "b", "none")], [[]], {("a", "b"): "0"}]:
            if isinstance(value, tuple):
                continue
            self.check_raises(BadPaper, judge_paper, one, one, value)
            self.check_raises(BadPaper, paper_table, one, one, value)

    def test_mixed_first(self):
        one = any_system()
        for call in (judge_paper, paper_table):
            for value in (None, (), (None,)):
                self.check_raises(MixedScales, call, one, System(StopScale(2), NEXT, [], {}), value)
                self.check_raises(MixedKinds, call, one, System(COST, NEXT, [], {}), value)

    def test_tables(self):
        one = chain()
        self.check_alike(paper_table(one, one, ()), {})
        rows = (("c", "a", "0"), ("a", "b", "none"), ("a", "a", "1"))
        told = paper_table(one, one, rows)
        self.check_alike(list(told.items()), [(("c", "a"), "0"), (("a", "b"), "none"), (("a", "a"), "1")])
        spoil(told)
        self.check_alike(len(paper_table(one, one, rows)), 3)
        self.assertTrue(share_nothing(told, paper_table(one, one, rows)))

    def test_states_that_are_no_words(self):
        one = made_system(COST, NEXT, ["", "a,b"], {"": "a,b", "a,b": ""})
        self.assertIsNone(judge_paper(one, one, (("", "", "0"), ("a,b", "a,b", "0"))))
        self.check_alike(judge_paper(one, one, (("", "a,b", "0"),)), ("open", "", "a,b"))

    def test_no_states(self):
        none = System(COST, NEXT, [], {})
        self.assertIsNone(judge_paper(none, chain(), ()))
        self.check_alike(judge_paper(none, chain(), (("a", "a", "0"),)), ("row", 0))


if __name__ == "__main__":
    unittest.main()
