import random
import unittest

from neargrades.errors import BadPaper, MixedKinds, MixedScales, UnknownState
from neargrades.ladders import judge_ladder, ladder_of
from neargrades.residues import within
from neargrades.rounds import tables
from neargrades.scales import CostScale, StopScale
from neargrades.systems import System, made_system
from tests.nearsamples import any_system, couples, lift, pairs, whole
from tests.samples import Checks, any_values

COST = CostScale(2)
NEXT = ("next",)


def chain(scale=COST):
    return made_system(scale, ("forth", NEXT), ["a", "b", "c"], {"a": [("b", "0")], "b": [("c", "1")], "c": []})


def open_row(one, two, ladder):
    """The first row that does not rest on the step ahead of it, by the words of S6.6."""
    for j in range(1, len(ladder)):
        table = {(x, y): grade for x, y, grade in ladder[j - 1]}
        for x, y, grade in ladder[j]:
            if not within(one.scale, grade, lift(one.kind, one.scale, table, one.step(x), two.step(y))):
                return ("open", j, x, y)
    return None


class JudgeTest(Checks, unittest.TestCase):

    def test_examples(self):
        one = chain()
        everything = tuple((x, y, "0") for x, y in pairs(one, one))
        self.assertIsNone(judge_ladder(one, one, ((),)))
        self.assertIsNone(judge_ladder(one, one, (everything,)))
        self.assertIsNone(judge_ladder(one, one, ((), (("c", "a", "0"), ("b", "a", "none")))))
        self.assertIsNone(judge_ladder(one, one, (everything, (("a", "b", "1"), ("b", "a", "0")), (("a", "a", "none"),))))
        self.check_alike(judge_ladder(one, one, (everything, (("b", "a", "0"), ("a", "b", "0")))), ("open", 1, "a", "b"))
        self.check_alike(judge_ladder(one, one, ((), (("c", "c", "0"),), (("b", "b", "0"), ("a", "a", "0")))),
                         ("open", 2, "a", "a"))
        self.check_alike(judge_ladder(one, one, ((), (), (("b", "b", "1"), ("a", "a", "0")))), ("open", 2, "b", "b"))

    def test_the_lowest_step_is_free(self):
        one = chain()
        self.assertIsNone(judge_ladder(one, one, ((("a", "b", "0"),), (("a", "a", "none"),))))
        self.check_alike(judge_ladder(one, one, ((("a", "b", "0"),), (("a", "b", "0"),))), ("open", 1, "a", "b"))

    def test_steps_forget_those_far_below(self):
        one = made_system(COST, NEXT, ["a"], {"a": "a"})
        row = (("a", "a", "0"),)
        self.assertIsNone(judge_ladder(one, one, (row, row, row)))
        self.check_alike(judge_ladder(one, one, (row, (), row)), ("open", 2, "a", "a"))
        self.check_alike(judge_ladder(one, one, (row, (("a", "a", "1"),), row)), ("open", 2, "a", "a"))
        self.check_alike(judge_ladder(one, one, (row, (("a", "a", "none"),), (("a", "a", "2"),))), ("open", 2, "a", "a"))

    def test_steps_forget_each_one_below(self):
        ring = made_system(COST, NEXT, ["a", "b", "c"], {"a": "b", "b": "c", "c": "a"})
        one, two, three = (("b", "b", "0"),), (("a", "a", "0"),), (("c", "c", "0"),)
        self.assertIsNone(judge_ladder(ring, ring, (one, two, three)))
        self.check_alike(judge_ladder(ring, ring, (one, two, (), three)), ("open", 3, "c", "c"))
        self.check_alike(judge_ladder(ring, ring, (one, two, three, three)), ("open", 3, "c", "c"))
        self.check_alike(judge_ladder(ring, ring, (one, two, three, one, two, one)), ("open", 5, "b", "b"))

    def test_by_the_words(self):
        chance = random.Random(1)
        seen = set()
        for one, two in couples(chance, 3, 3):
            steps = tables(one, two, 4)
            for _ in range(5):
                ladder = tuple(tuple(
                    (x, y, grade if chance.random() < 0.95 else chance.choice(one.scale.grades()))
                    for (x, y), grade in chance.sample(list(table.items()), len(table)) if chance.random() < 0.9
                ) for table in steps[:chance.randrange(1, 6)])
                told = judge_ladder(one, two, ladder)
                self.check_alike(told, open_row(one, two, ladder))
                seen.add((len(ladder), told and told[1]))
        self.assertGreater(len(seen), 10)

    def test_what_follows_from_a_right_ladder(self):
        # Each grade of the last one of k + 1 steps is within what the pair has behind k rounds.
        chance = random.Random(2)
        count = 0
        for one, two in couples(chance, 3, 3):
            told = tables(one, two, 3)
            for size in (1, 2, 3, 4):
                ladder = tuple(tuple((x, y, chance.choice(one.scale.grades())) for x, y in pairs(one, two)
                                     if chance.random() < 0.4) for _ in range(size))
                if judge_ladder(one, two, ladder) is None:
                    count += 1
                    for x, y, grade in ladder[-1]:
                        self.assertTrue(within(one.scale, grade, told[size - 1][(x, y)]))
        self.assertGreater(count, 100)

    def test_what_is_no_tuple_of_tuples(self):
        one = chain()
        wrong = [value for value in any_values() if not isinstance(value, tuple) or value in ((), (1, (2,)), ("0",))]
        for value in wrong + [((), []), ([],), ((), None), [()], ((), "a")]:
            self.check_raises(BadPaper, judge_ladder, one, one, value)
            if not isinstance(value, tuple):
                self.check_raises(BadPaper, judge_ladder, one, one, ((("a", "a", "9"),), value))

    def test_rows_that_are_none(self):
        one = chain()
        first = (("a", "a", "0"), ("a", "b", "none"))
        for row in any_values() + [("a", "c"), ["a", "c", "0"], ("a", "z", "0"), ("z", "a", "0"), ("a", "c", "3"),
                                   ("a", "c", 0), ("a", "b", "0"), ("a", "a", "0"), (("a", "c"), "0"), ("a", [], "0")]:
            self.check_alike(judge_ladder(one, one, (first + (row, None),)), ("row", 0, 2))
            # Rows that are open are told behind all rows that are none.
            self.check_alike(judge_ladder(one, one, ((), first, first + (row, None), (None,))), ("row", 2, 2))
        self.check_alike(judge_ladder(one, one, (first, first + first[:1])), ("row", 1, 2))
        self.assertIsNone(judge_ladder(one, one, (first, first[1:], ())))

    def test_mixed_first(self):
        one = chain()
        for value in (None, ((),), ()):
            self.check_raises(MixedScales, judge_ladder, one, chain(StopScale(2)), value)
            self.check_raises(MixedKinds, judge_ladder, one, any_system(), value)


class LadderOfTest(Checks, unittest.TestCase):

    def test_by_the_words(self):
        chance = random.Random(3)
        for one, two in couples(chance, 4, 3):
            asked = [pair for pair in pairs(one, two) if chance.random() < 0.3]
            chosen = whole(one, two, asked)
            for rounds in (0, 1, 4):
                steps = tables(one, two, rounds)
                told = ladder_of(one, two, asked, rounds)
                self.check_alike(told, tuple(
                    tuple((x, y, table[(x, y)]) for x, y in chosen if table[(x, y)] != one.scale.none)
                    for table in steps))
                self.assertIsNone(judge_ladder(one, two, told))

    def test_sixty_rounds_and_none(self):
        one = chain()
        told = ladder_of(one, one, [("a", "c")], 60)
        self.assertEqual(len(told), 61)
        self.assertIsNone(judge_ladder(one, one, told))
        self.check_alike(told[:3], ((("a", "c", "0"),), (), ()))
        self.check_alike(ladder_of(one, one, (("c", "c"), ("c", "c")), 0), ((("c", "c", "0"),),))
        self.check_alike(ladder_of(one, one, [], 2), ((), (), ()))

    def test_errors(self):
        one = chain()
        for value in any_values():
            self.check_raises(UnknownState, ladder_of, one, one, [("a", "a"), (value, 3)], 1, name=value)
            self.check_raises(UnknownState, ladder_of, one, one, [("a", value), ("z", 3)], 1, name=value)
        self.check_raises(MixedScales, ladder_of, one, chain(StopScale(2)), [(3, 3)], 1)
        self.check_raises(MixedKinds, ladder_of, one, any_system(), [(3, 3)], 1)


if __name__ == "__main__":
    unittest.main()
