import random
import unittest

from neargrades.errors import BadPaper, MixedKinds, MixedScales, UnknownGrade, UnknownState
from neargrades.judging import judge_paper
from neargrades.papers import behind_papers, claim_paper, cut, joined, paper_of, thinned
from neargrades.residues import within
from neargrades.rounds import near, nearness
from neargrades.scales import CostScale, LevelScale, SetScale, StopScale
from neargrades.systems import System, made_system, summed
from tests.kindsamples import kinds
from tests.nearsamples import (
    ODD_NAMES, STATE_NAMES, any_system, couples, is_tight, let_by, near_scales, pairs, random_system, whole,
)
from tests.samples import Checks, any_values, diamond

COST = CostScale(2)
NEXT = ("next",)
NOT_TUPLES = [value for value in any_values() if not isinstance(value, tuple)]


def made(kind, steps, scale=COST):
    return made_system(scale, kind, list(steps), steps)


def ring():
    """Three states round and round: all pairs need one another in threes."""
    return made(NEXT, {"a": "b", "b": "c", "c": "a"})


def small_papers(chance, one, two):
    """Some papers that are let by: of the nearness, of less, and of fewer rows."""
    table = nearness(one, two)[0]
    everything = tuple((x, y, grade) for (x, y), grade in table.items())
    told = [(), everything, tuple((x, y, one.scale.none) for x, y, _ in everything[:2])]
    for _ in range(6):
        rows = [(x, y, chance.choice([d for d in one.scale.grades() if within(one.scale, d, grade)]))
                for x, y, grade in everything if chance.random() < 0.8]
        chance.shuffle(rows)
        while not let_by(one, two, rows):
            rows.remove(chance.choice(rows))
        told.append(tuple(rows))
    return told


class PaperOfTest(Checks, unittest.TestCase):

    def test_by_the_words(self):
        chance = random.Random(1)
        for one, two in couples(chance, 4, 4):
            table = nearness(one, two)[0]
            for _ in range(2):
                asked = [pair for pair in pairs(one, two) if chance.random() < 0.2]
                told = paper_of(one, two, asked)
                self.check_alike(told, tuple((x, y, table[(x, y)]) for x, y in whole(one, two, asked)
                                             if table[(x, y)] != one.scale.none))
                self.assertIsNone(judge_paper(one, two, told))
        self.check_alike(paper_of(ring(), ring(), []), ())

    def test_errors(self):
        one = any_system()
        self.check_raises(MixedScales, paper_of, one, System(StopScale(2), NEXT, [], {}), [(3, 3)])
        self.check_raises(MixedKinds, paper_of, one, System(COST, NEXT, [], {}), [(3, 3)])
        for value in any_values():
            self.check_raises(UnknownState, paper_of, one, one, [("a", "a"), (value, None)], name=value)
            self.check_raises(UnknownState, paper_of, one, one, (("a", value), (None, None)), name=value)


class ClaimTest(Checks, unittest.TestCase):

    def check_claim(self, one, two, x, y, grade):
        told = claim_paper(one, two, x, y, grade)
        scale = one.scale
        if grade == scale.none:
            self.check_alike(told, ())
        elif not within(scale, grade, near(one, two, x, y)):
            self.assertIsNone(told)
        else:
            self.assertIsNone(judge_paper(one, two, told))
            row, = [row for row in told if row[:2] == (x, y)]
            self.assertTrue(within(scale, grade, row[2]))
            self.assertTrue(is_tight(one, two, told, (x, y)))
            return len(told)
        return 0

    def test_by_all_lots_of_rows(self):
        chance = random.Random(2)
        sizes = set()
        for one, two in couples(chance, 3, 3, scales=near_scales() + [LevelScale(3), SetScale(["a", "b", "c"])]):
            everything = pairs(one, two)
            for x, y in chance.sample(everything, min(2, len(everything))):
                for grade in {near(one, two, x, y), chance.choice(one.scale.grades()), one.scale.none}:
                    sizes.add(self.check_claim(one, two, x, y, grade))
        self.assertGreater(max(sizes), 4)

    def test_rows_that_go_together_only(self):
        # Each of the three states needs the next pair: they go together or not at all.
        one = ring()
        self.check_alike(sorted(claim_paper(one, one, "a", "b", "0")), [
            ("a", "b", "0"), ("b", "c", "0"), ("c", "a", "0")])
        kind = ("kept", NEXT)
        # Either of the rings would do as a witness; each is of two pairs, which go together.
        two = made(kind, {"r": [("p", "0"), ("q", "0")], "p": [("q", "0")], "q": [("p", "0")]})
        self.check_claim(two, two, "r", "r", "0")
        self.assertIn(len(claim_paper(two, two, "r", "r", "0")), (3, 5))

    def test_a_grade_just_beyond_the_nearness(self):
        kind = ("forth", NEXT)
        one = made(kind, {"a": [("a", "0")]})
        two = made(kind, {"z": [("z", "1")]})
        self.assertIsNone(claim_paper(one, two, "a", "z", "0"))
        three = made(kind, {"a": [("b", "0")], "b": []})
        four = made(kind, {"z": [("u", "1")], "u": []})
        self.assertEqual(near(three, four, "a", "z"), "1")
        self.assertIsNone(claim_paper(three, four, "a", "z", "0"))
        for grade in ("1", "2"):
            told = claim_paper(three, four, "a", "z", grade)
            self.assertIsNone(judge_paper(three, four, told))
            self.assertEqual(sorted(row[:2] for row in told), [("a", "z"), ("b", "u")])
        self.check_alike(claim_paper(three, four, "a", "z", "none"), ())

    def test_grades_that_are_not_comparable(self):
        scale = diamond()
        one = made(("forth", NEXT), {"a": [("b", "pq")], "b": []}, scale)
        two = made(("forth", NEXT), {"z": [("u", "p")], "u": []}, scale)
        self.assertEqual(near(one, two, "a", "z"), "p")
        self.assertIsNone(claim_paper(one, two, "a", "z", "q"))
        self.assertIsNone(claim_paper(one, two, "a", "z", "pq"))
        self.assertEqual(self.check_claim(one, two, "a", "z", "p"), 2)
        three = made(("forth", NEXT), {"z": [("u", "p"), ("v", "q")], "u": [], "v": []}, scale)
        self.assertEqual(self.check_claim(one, three, "a", "z", "pq"), 3)

    def test_errors(self):
        one, two = any_system(), System(COST, any_system().kind, ["z"], {"z": ("red", [])})
        for grade in (None, "none", "9"):
            self.check_raises(MixedScales, claim_paper, one, System(StopScale(2), NEXT, [], {}), 3, None, grade)
            self.check_raises(MixedKinds, claim_paper, one, System(COST, NEXT, [], {}), 3, None, grade)
            for value in any_values():
                self.check_raises(UnknownState, claim_paper, one, two, value, None, grade, name=value)
                self.check_raises(UnknownState, claim_paper, one, two, "a", value, grade, name=value)
        for value in any_values():
            self.check_raises(UnknownGrade, claim_paper, one, two, "a", "z", value, name=value)
        self.check_raises(UnknownState, claim_paper, one, two, "z", "z", "0", name="z")

    def test_larger_systems(self):
        chance = random.Random(3)
        sizes = set()
        for scale in [COST, SetScale(["p", "q"]), StopScale(3)]:
            for kind in kinds(scale)[1:]:
                one = random_system(kind, scale, list("abcdef"), chance, 4)
                both = summed(one, one)
                x, y = "l.a", chance.choice(["r.a", "r.b", "r.c"])
                told = claim_paper(both, both, x, y, near(both, both, x, y))
                self.assertIsNone(judge_paper(both, both, told))
                self.check_all_needed(both, told, (x, y))
                sizes.add(len(told))
        self.assertGreater(len(sizes), 6)

    def check_all_needed(self, system, paper, pair):
        for row in paper:
            # What is let by without one row at the most lacks the row of the pair.
            left = [other for other in paper if other != row]
            wrong = judge_paper(system, system, tuple(left))
            while wrong is not None:
                left = [other for other in left if other[:2] != wrong[1:]]
                wrong = judge_paper(system, system, tuple(left))
            self.assertNotIn(pair, [other[:2] for other in left])


class ThinnedTest(Checks, unittest.TestCase):

    def test_by_all_lots_of_rows(self):
        chance = random.Random(4)
        sizes = set()
        for one, two in couples(chance, 3, 3, scales=[CostScale(2), SetScale(["q", "p"])]):
            for paper in small_papers(chance, one, two):
                for x, y in chance.sample(pairs(one, two), min(2, len(pairs(one, two)))):
                    told = thinned(one, two, paper, x, y)
                    if (x, y) not in [row[:2] for row in paper]:
                        self.check_alike(told, ())
                        continue
                    self.assertIs(type(told), tuple)
                    self.check_alike([row for row in paper if row in told], list(told))
                    self.assertIsNone(judge_paper(one, two, told))
                    self.assertIn((x, y), [row[:2] for row in told])
                    self.assertTrue(is_tight(one, two, told, (x, y)))
                    sizes.add((len(paper), len(told)))
        self.assertGreater(len(sizes), 12)

    def test_a_row_with_none(self):
        one = ring()
        paper = (("a", "a", "0"), ("b", "b", "0"), ("a", "c", "none"), ("c", "c", "0"))
        self.check_alike(thinned(one, one, paper, "a", "c"), (("a", "c", "none"),))
        self.check_alike(thinned(one, one, paper, "a", "b"), ())
        self.check_alike(thinned(one, one, paper, "c", "c"), paper[:2] + paper[3:])
        self.check_alike(thinned(one, one, (), "c", "c"), ())

    def test_rows_stay_as_they_are(self):
        one = ring()
        paper = (("c", "c", "2"), ("a", "a", "2"), ("b", "b", "2"), ("b", "c", "1"), ("a", "b", "1"), ("c", "a", "1"))
        self.check_alike(thinned(one, one, paper, "a", "a"), paper[:3])
        self.check_alike(thinned(one, one, paper, "a", "b"), paper[3:])

    def test_errors(self):
        one = ring()
        for value in NOT_TUPLES + [(None,), (("a", "a", "0"),), (("a", "a", "none"),) * 2, (("a", "a", "9"),)]:
            self.check_raises(BadPaper, thinned, one, one, value, None, None)
        for value in any_values():
            self.check_raises(UnknownState, thinned, one, one, (), value, None, name=value)
            self.check_raises(UnknownState, thinned, one, one, (), "a", value, name=value)
        self.check_raises(MixedScales, thinned, one, System(StopScale(2), NEXT, [], {}), None, None, None)
        self.check_raises(MixedKinds, thinned, one, any_system(), None, None, None)


class JoinedTest(Checks, unittest.TestCase):

    def test_examples(self):
        one = made(("forth", NEXT), {"a": [], "b": [], "c": []}, diamond())
        paper = (("b", "a", "p"), ("a", "a", "0"), ("c", "c", "p"))
        second = (("c", "c", "q"), ("a", "b", "q"), ("a", "a", "p"), ("b", "c", "0"))
        self.check_alike(joined(one, one, paper, second), (
            ("b", "a", "p"), ("a", "a", "p"), ("c", "c", "pq"), ("a", "b", "q"), ("b", "c", "0")))
        self.check_alike(joined(one, one, second, paper), (
            ("c", "c", "pq"), ("a", "b", "q"), ("a", "a", "p"), ("b", "c", "0"), ("b", "a", "p")))
        self.check_alike(joined(one, one, paper, ()), paper)
        self.check_alike(joined(one, one, (), paper), paper)
        self.check_alike(joined(one, one, (), ()), ())
        self.check_alike(joined(one, one, paper, paper), paper)

    def test_by_the_words(self):
        chance = random.Random(5)
        for one, two in couples(chance, 3, 3):
            papers = small_papers(chance, one, two)
            for _ in range(5):
                paper, second = chance.choice(papers), chance.choice(papers)
                lacking = {row[:2]: row[2] for row in second}
                told = [(x, y, one.scale.join(grade, lacking.get((x, y), one.scale.none))) for x, y, grade in paper]
                told += [row for row in second if row[:2] not in [other[:2] for other in paper]]
                self.check_alike(joined(one, two, paper, second), tuple(told))
                self.assertIsNone(judge_paper(one, two, tuple(told)))

    def test_errors(self):
        one = ring()
        wrong = [value for value in NOT_TUPLES] + [(None,), (("a", "a", "0"),), (("a", "a", "none"),) * 2]
        for value in wrong:
            self.check_raises(BadPaper, joined, one, one, value, ())
            self.check_raises(BadPaper, joined, one, one, (), value)
        self.check_raises(MixedScales, joined, one, System(StopScale(2), NEXT, [], {}), None, None)
        self.check_raises(MixedKinds, joined, one, any_system(), None, None)


class CutTest(Checks, unittest.TestCase):

    def test_by_the_words(self):
        chance = random.Random(6)
        for one, two in couples(chance, 3, 3):
            for paper in small_papers(chance, one, two):
                asked = [pair for pair in pairs(one, two) if chance.random() < 0.3]
                chosen = whole(one, two, asked)
                told = cut(one, two, paper, asked)
                self.check_alike(told, tuple(row for row in paper if row[:2] in chosen))
                self.assertIsNone(judge_paper(one, two, told))
        paper = (("b", "b", "0"), ("a", "a", "0"), ("a", "c", "none"), ("c", "c", "0"))
        self.check_alike(cut(ring(), ring(), paper, [("a", "c")]), (("a", "c", "none"),))
        self.check_alike(cut(ring(), ring(), paper, (("a", "a"), ("a", "a"))), paper[:2] + paper[3:])
        self.check_alike(cut(ring(), ring(), paper, []), ())

    def test_errors(self):
        one = ring()
        for value in NOT_TUPLES + [(None,), (("a", "a", "0"),)]:
            self.check_raises(BadPaper, cut, one, one, value, [(None, None)])
        for value in any_values():
            self.check_raises(UnknownState, cut, one, one, (), [("a", "a"), (value, 3)], name=value)
            self.check_raises(UnknownState, cut, one, one, (), [("a", value), ("z", 3)], name=value)
        self.check_raises(MixedScales, cut, one, System(StopScale(2), NEXT, [], {}), None, [(3, 3)])
        self.check_raises(MixedKinds, cut, one, any_system(), None, [(3, 3)])


class BehindTest(Checks, unittest.TestCase):

    def test_by_the_words(self):
        chance = random.Random(7)
        sizes = set()
        for scale in near_scales():
            for kind in kinds(scale):
                one = random_system(kind, scale, STATE_NAMES[:3], chance)
                two = random_system(kind, scale, ODD_NAMES[:2], chance)
                three = random_system(kind, scale, ["x", "y", "w"], chance)
                for paper in small_papers(chance, one, two)[1:4]:
                    for second in small_papers(chance, two, three)[1:4]:
                        rows = []
                        for x, z in pairs(one, three):
                            ways = [scale.then(g, h) for a, b, g in paper for c, d, h in second
                                    if (a, d) == (x, z) and b == c]
                            if ways:
                                rows.append((x, z, scale.joined(ways)))
                        told = behind_papers(one, two, three, paper, second)
                        self.check_alike(told, tuple(rows))
                        self.assertIsNone(judge_paper(one, three, told))
                        sizes.add(len(told))
        self.assertGreater(len(sizes), 5)

    def test_a_pair_by_several_ways(self):
        scale = diamond()
        one = made(("forth", NEXT), {"a": [], "b": []}, scale)
        paper = (("a", "b", "p"), ("a", "a", "q"), ("b", "b", "p"))
        second = (("b", "a", "p"), ("a", "a", "pq"), ("b", "b", "q"))
        self.check_alike(behind_papers(one, one, one, paper, second), (
            ("a", "a", "pq"), ("a", "b", "0"), ("b", "a", "p"), ("b", "b", "0")))
        self.check_alike(behind_papers(one, one, one, (), second), ())
        self.check_alike(behind_papers(one, one, one, paper, ()), ())
        self.check_alike(behind_papers(one, one, one, paper[:1], second[1:2]), ())

    def test_rows_with_none_stay(self):
        one = made(("forth", NEXT), {"a": [], "b": []})
        self.check_alike(behind_papers(one, one, one, (("b", "a", "none"),), (("a", "b", "0"),)), (("b", "b", "none"),))
        self.check_alike(behind_papers(one, one, one, (("b", "a", "2"),), (("a", "b", "1"),)), (("b", "b", "none"),))

    def test_errors(self):
        one = ring()
        other_scale, other_kind = System(StopScale(2), NEXT, [], {}), System(COST, ("forth", NEXT), [], {})
        none = System(COST, NEXT, [], {})
        self.check_raises(MixedScales, behind_papers, one, other_scale, other_kind, None, None)
        self.check_raises(MixedKinds, behind_papers, one, other_kind, other_scale, None, None)
        self.check_raises(MixedScales, behind_papers, one, none, other_scale, None, None)
        self.check_raises(MixedKinds, behind_papers, one, none, other_kind, None, None)
        two = made(NEXT, {"y": "y"})
        paper, second = (("a", "y", "0"), ("b", "y", "0"), ("c", "y", "0")), (("y", "a", "2"), ("y", "b", "2"), ("y", "c", "2"))
        self.assertEqual(len(behind_papers(one, two, one, paper, second)), 9)
        for value in NOT_TUPLES + [(None,), (("a", "y", "0"),), (("a", "a", "none"),), (("y", "a", "none"),) * 2]:
            self.check_raises(BadPaper, behind_papers, one, two, one, value, second)
            self.check_raises(BadPaper, behind_papers, one, two, one, paper, value)
        self.check_raises(BadPaper, behind_papers, one, two, one, second, paper)


if __name__ == "__main__":
    unittest.main()
