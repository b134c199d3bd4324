import random
import unittest

from neargrades.branches import attempt, come_of, elders, last_common, line_to, tried
from neargrades.errors import (
    BadDeed, BadValue, Clash, NoState, NotTold, NothingDone, TooMany, UnknownState,
)
from neargrades.yard import Yard
from tests.samples import Checks, any_values, caught, share_nothing, spoil
from tests.yardsamples import COST, NEXT, any_yard, grown_yard, random_call, random_deed, seen

RED = ("red", [])
STEP = ("red", ())
TOLD = ("tell", "a", RED)


def woven():
    """0 - 1 - 2 and 0 - 3, 4 merged of 2 and 3, 5 behind 3, 6 merged of 5 and 4."""
    yard = any_yard()
    yard.branch("other")
    yard.do(("tell", "a", RED))
    yard.do(("claim", "a", "a", "1"))
    yard.go("other")
    yard.do(("tell", "b", RED))
    yard.go("main")
    yard.merge("other")
    yard.go("other")
    yard.do(("tell", "c", RED))
    yard.merge("main")
    return yard


class EldersTest(Checks, unittest.TestCase):

    def test_examples(self):
        yard = woven()
        self.assertEqual(len(yard), 7)
        self.check_alike([elders(yard, number) for number in range(7)], [
            [0], [0, 1], [0, 1, 2], [0, 3], [0, 1, 2, 3, 4], [0, 3, 5], [0, 1, 2, 3, 4, 5, 6]])
        self.check_alike([come_of(yard, number) for number in range(7)], [
            [0, 1, 2, 3, 4, 5, 6], [1, 2, 4, 6], [2, 4, 6], [3, 4, 5, 6], [4, 6], [5, 6], [6]])
        for one, two, number in [(2, 3, 0), (4, 5, 3), (5, 4, 3), (4, 2, 2), (6, 4, 4), (6, 6, 6), (0, 6, 0), (2, 5, 0), (1, 4, 1)]:
            self.check_alike(last_common(yard, one, two), number)
        self.check_alike(line_to(yard, 0), [])
        self.check_alike(line_to(yard, 2), [("tell", "a", STEP), ("claim", "a", "a", "1")])
        self.check_alike(line_to(yard, 4), [("tell", "a", STEP), ("claim", "a", "a", "1"), ("merge", 3)])
        self.check_alike(line_to(yard, 6), [("tell", "b", STEP), ("tell", "c", STEP), ("merge", 4)])

    def test_by_the_words(self):
        for seed in range(25):
            yard, plain = grown_yard(random.Random(seed), 30)
            count = len(yard)
            told = [plain.elders(number) for number in range(count)]
            for number in range(count):
                self.check_alike(elders(yard, number), told[number])
                self.check_alike(come_of(yard, number), [k for k in range(count) if number in told[k]])
                line, at = [], number
                while at:
                    line.insert(0, plain.deeds[at - 1][1])
                    at = plain.deeds[at - 1][0]
                self.check_alike(line_to(yard, number), line)
                for other in range(count):
                    self.check_alike(last_common(yard, number, other), plain.last_common(number, other))

    def test_the_line_leads_there(self):
        yard = woven()
        other = any_yard()
        for deed in line_to(yard, 5):
            other.do(deed)
        self.check_alike(other.now(), yard.moment(5))

    def test_many_moments(self):
        yard = Yard(COST, NEXT, ["a"])
        yard.branch("other")
        for k in range(66):
            yard.do(("claim", "a", "a", "1"))
            yard.go("other" if yard.here() == "main" else "main")
            yard.do(("claim", "a", "a", "1"))
            yard.merge("other" if yard.here() == "main" else "main")
        self.assertEqual(len(elders(yard, len(yard) - 1)), len(yard))
        self.check_alike(come_of(yard, 0), list(range(len(yard))))

    def test_numbers(self):
        yard = woven()
        for value in any_values() + [7]:
            if isinstance(value, bool) or value not in (0, 1, 3):
                for call in (elders, come_of, line_to):
                    self.check_raises(NoState, call, yard, value, number=value)
                self.check_raises(NoState, last_common, yard, value, None, number=value)
                self.check_raises(NoState, last_common, yard, 6, value, number=value)
        self.check_raises(NoState, last_common, yard, 8, 9, number=8)

    def test_new_lists(self):
        yard = woven()
        for call in (elders, come_of, line_to):
            told = call(yard, 4)
            self.assertTrue(share_nothing(told, call(yard, 4)))
            spoil(told)
            self.assertFalse(told == call(yard, 4))


class Stop(BaseException):
    pass


class AttemptTest(Checks, unittest.TestCase):

    def test_what_action_returns(self):
        yard = woven()
        held = []
        for value in any_values():
            self.assertIs(attempt(yard, lambda one: (held.append(one), value)[1]), value)
        self.assertTrue(all(one is yard for one in held))
        self.assertEqual(attempt(yard, lambda one: one.do(TOLD)), 7)
        self.assertEqual((len(yard), yard.present()), (8, 7))

    def test_errors_that_leave_it(self):
        for error in (ValueError("x"), KeyError("y"), Stop(), KeyboardInterrupt(), ZeroDivisionError(), NoState(3)):
            yard = woven()
            before, twin = seen(yard), yard.twin()

            def action(one):
                one.do(("tell", "a", ("blue", [("b", "1")])))
                one.branch("new")
                one.go("new")
                one.do(("drop", "b"))
                one.merge("main")
                one.undo()
                raise error

            with self.assertRaises(type(error)) as told:
                attempt(yard, action)
            self.assertIs(told.exception, error)
            self.check_alike(seen(yard), before)
            self.assertTrue(yard == twin)
            # Numbers and names are given again.
            self.assertEqual(yard.do(TOLD), 7)
            yard.branch("new")

    def test_an_error_that_is_caught_within(self):
        yard = woven()

        def action(one):
            one.do(TOLD)
            self.check_raises(NothingDone, one.redo)
            return one.do(TOLD)

        self.assertEqual(attempt(yard, action), 8)
        self.assertEqual(len(yard), 9)

    def test_attempts_within_one_another(self):
        yard = woven()

        def inner(one):
            one.do(("drop", "a"))
            raise LookupError("inner")

        def outer(one):
            numbers = [one.do(TOLD)]
            with self.assertRaises(LookupError):
                attempt(one, inner)
            numbers.append(one.do(TOLD))
            numbers.append(attempt(one, lambda again: again.do(TOLD)))
            return numbers

        self.check_alike(attempt(yard, outer), [7, 8, 9])
        self.assertEqual(len(yard), 10)
        before = seen(yard)

        def failing(one):
            self.check_alike(attempt(one, outer), [10, 11, 12])
            one.undo()
            raise RuntimeError()

        with self.assertRaises(RuntimeError):
            attempt(yard, failing)
        self.check_alike(seen(yard), before)

    def test_random_attempts(self):
        chance = random.Random(1)
        failed = 0
        for seed in range(60):
            yard = grown_yard(random.Random(seed), 15)[0]
            before = seen(yard)

            def action(one):
                for _ in range(8):
                    word, arguments = random_call(one, chance)
                    getattr(one, word)(*arguments)

            if caught(attempt, yard, action) is not None:
                failed += 1
                self.check_alike(seen(yard), before)
        self.assertGreater(failed, 20)

    def test_twins_that_are_made_within(self):
        yard, twins = woven(), []

        def action(one):
            one.do(TOLD)
            twins.append(one.twin())
            raise ValueError()

        self.assertIsNotNone(caught(attempt, yard, action))
        self.assertEqual((len(twins[0]), len(yard)), (8, 7))
        twins[0].do(TOLD)
        self.assertEqual(yard.do(("drop", "a")), 7)

    def test_another_yard_stays(self):
        yard, other = woven(), woven()

        def action(one):
            other.do(TOLD)
            one.do(TOLD)
            raise ValueError()

        self.assertIsNotNone(caught(attempt, yard, action))
        self.assertEqual((len(yard), len(other)), (7, 8))


class TriedTest(Checks, unittest.TestCase):

    def test_all_deeds(self):
        yard = woven()
        self.check_alike(tried(yard, []), [])
        self.check_alike(tried(yard, ()), [])
        self.check_alike(tried(yard, [TOLD, ("drop", "a"), ("claim", "a", "b", "0")]), [7, 8, 9])
        self.check_alike(tried(yard, (TOLD,)), [10])
        self.check_alike(yard.present(), 10)

    def test_or_none(self):
        for deeds, error, told in [
            ([TOLD, ("drop", "x"), ("drop",)], UnknownState, {"name": "x"}), ([TOLD, None], BadDeed, {}),
            ([("drop", "a"), ("drop", "a")], NotTold, {"name": "a"}), ([("tell", "a", RED), ("tell", "a", 3)], BadValue, {"path": ()}),
            ([("withdraw", "b", "b")], NotTold, {"name": ("b", "b")}), ([TOLD] * 194, TooMany, {}),
            ([TOLD] * 194 + [("drop",)], TooMany, {}), ([TOLD] * 193 + [("drop",)], BadDeed, {}),
        ]:
            yard = woven()
            before = seen(yard)
            self.check_raises(error, tried, yard, deeds, **told)
            self.check_alike(seen(yard), before)
            self.check_alike(tried(yard, [TOLD]), [7])
        self.check_alike(tried(woven(), [TOLD] * 193), list(range(7, 200)))

    def test_any_values_among_the_deeds(self):
        for value in any_values():
            yard = woven()
            self.check_raises(BadDeed, tried, yard, [TOLD, value])
            self.assertEqual(len(yard), 7)

    def test_random_deeds(self):
        chance = random.Random(2)
        failed = 0
        for seed in range(40):
            yard = grown_yard(random.Random(seed), 10)[0]
            deeds = [random_deed(yard, chance) for _ in range(4)]
            other, before = yard.twin(), seen(yard)
            told = caught(tried, yard, deeds)
            if told is None:
                self.check_alike([other.do(deed) for deed in deeds][-1], yard.present())
                self.assertTrue(other == yard)
            else:
                failed += 1
                self.check_alike(seen(yard), before)
        self.assertTrue(5 < failed < 40)

    def test_nothing_is_changed_or_kept(self):
        yard = woven()
        deeds = [("tell", "a", ("red", [("a", "1")]))]
        told = tried(yard, deeds)
        self.check_alike(deeds, [("tell", "a", ("red", [("a", "1")]))])
        spoil(deeds)
        spoil(told)
        self.check_alike(yard.now()[0]["a"], ("red", (("a", "1"),)))

    def test_merges_within(self):
        yard = woven()
        yard.go("main")
        yard.do(("drop", "a"))
        yard.go("other")
        yard.do(("tell", "a", ("blue", [])))
        before = seen(yard)

        def action(one):
            one.do(("claim", "a", "b", "0"))
            one.merge("main")

        self.check_raises(Clash, attempt, yard, action, spots=(("state", "a"),))
        self.check_alike(seen(yard), before)


if __name__ == "__main__":
    unittest.main()
