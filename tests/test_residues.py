import itertools
import unittest

from neargrades.errors import UnknownGrade
from neargrades.residues import height, idempotent, within
from neargrades.scales import CostScale, LevelScale, PairScale, SetScale, StopScale, TableScale
from tests.samples import Checks, any_values, diamond, lawful_scales, one_grade, share_nothing, tuples


def three_idempotents():
    """A chain whose order is not that of the list."""
    grades = ["mid", "low", "top"]
    rank = {"low": 0, "mid": 1, "top": 2}
    joins = [[max(a, b, key=rank.get) for b in grades] for a in grades]
    products = [[min(a, b, key=rank.get) for b in grades] for a in grades]
    return TableScale(grades, joins, products, none="low", nearest="top")


class WithinTest(Checks, unittest.TestCase):

    def test_by_the_join(self):
        for scale in lawful_scales():
            for a, b in tuples(scale.grades(), 2):
                self.assertIs(within(scale, a, b), scale.join(a, b) == b)

    def test_examples(self):
        self.assertIs(within(CostScale(3), "2", "1"), True)
        self.assertIs(within(CostScale(3), "1", "2"), False)
        self.assertIs(within(CostScale(3), "none", "3"), True)
        self.assertIs(within(LevelScale(3), "1", "2"), True)
        self.assertIs(within(diamond(), "p", "q"), False)
        self.assertIs(within(diamond(), "p", "p"), True)

    def test_unknown_grades(self):
        for value in any_values():
            self.check_raises(UnknownGrade, within, CostScale(1), value, "0", name=value)
            self.check_raises(UnknownGrade, within, CostScale(1), "0", value, name=value)
            self.check_raises(UnknownGrade, within, CostScale(1), "first", value, name="first")


class HeightTest(unittest.TestCase):

    def test_families(self):
        self.assertEqual(height(one_grade()), 0)
        for top in range(7):
            self.assertEqual(height(CostScale(top)), top + 1)
            self.assertEqual(height(StopScale(top)), top + 1)
            self.assertEqual(height(LevelScale(top + 1)), top + 1)
        self.assertEqual([height(SetScale(list(names))) for names in ("a", "ba", "abc")], [1, 2, 3])
        self.assertEqual(height(PairScale(LevelScale(3), LevelScale(2))), 5)
        self.assertEqual(height(three_idempotents()), 2)

    def test_by_all_chains(self):
        for scale in lawful_scales():
            if len(scale) > 8:
                continue
            grades = scale.grades()
            longest = 0
            for count in range(1, len(grades) + 1):
                for chain in itertools.permutations(grades, count):
                    if all(within(scale, a, b) for a, b in zip(chain, chain[1:])):
                        longest = count - 1
                        break
            self.assertEqual(height(scale), longest)


class IdempotentTest(unittest.TestCase):

    def test_families(self):
        self.assertEqual(idempotent(one_grade()), ["only"])
        self.assertEqual(idempotent(CostScale(0)), ["0", "none"])
        self.assertEqual(idempotent(CostScale(3)), ["0", "none"])
        self.assertEqual(idempotent(StopScale(3)), ["0", "3", "none"])
        self.assertEqual(idempotent(LevelScale(2)), ["0", "1", "2"])
        self.assertEqual(idempotent(SetScale(["b", "a"])), ["0", "b", "a", "ba"])
        self.assertEqual(idempotent(PairScale(CostScale(1), LevelScale(1))), ["0/0", "0/1", "none/0", "none/1"])
        self.assertEqual(idempotent(three_idempotents()), ["mid", "low", "top"])

    def test_a_new_list(self):
        scale = LevelScale(2)
        self.assertTrue(share_nothing(idempotent(scale), idempotent(scale), scale.grades()))


if __name__ == "__main__":
    unittest.main()
