import random
import unittest

from neargrades.branches import tried
from neargrades.claims import near_at, open_states, system_at, verdict, verdicts, would_change
from neargrades.errors import BadDeed, NoState, NotTold, OpenState, TooMany, UnknownGrade, UnknownState
from neargrades.judging import judge_paper
from neargrades.residues import within
from neargrades.rounds import near, round_below
from neargrades.sayings import depth, written_out
from neargrades.scales import CostScale, LevelScale, SetScale
from neargrades.spaces import closed_space
from neargrades.systems import System, steps_of
from neargrades.told import judge_lines, told_lines
from neargrades.values import states_in
from neargrades.yard import Yard
from tests.foldsamples import likely_system
from tests.kindsamples import hues, kinds
from tests.nearsamples import all_rounds
from tests.samples import Checks, any_values, caught, share_nothing, spoil
from tests.yardsamples import COST, KIND, NEXT, STATES, any_yard, grown_yard, random_deed, seen

HUES = closed_space(COST, ["red", "pink"], [("red", "pink", "1"), ("pink", "red", "2")])
PINKS = ("both", ("names", HUES), ("forth", NEXT))


def sample():
    """a is red, b pink and leads to c, c is red and leads to d, which is not told; e leads to itself."""
    yard = Yard(COST, PINKS, ["e", "d", "c", "b", "a"])
    for x, data in [("a", ("red", [])), ("b", ("pink", [("c", "1")])), ("c", ("red", [("d", "0")])), ("e", ("red", [("e", "1")]))]:
        yard.do(("tell", x, data))
    return yard


def reached_by_words(yard, steps, x, y):
    found = {x, y}
    while True:
        more = found.union(*[states_in(yard.kind, steps[z]) for z in found if z in steps])
        if more == found:
            return [z for z in yard.states() if z in found]
        found = more


def word_by_words(yard, number, x, y, grade):
    steps = yard.moment(number)[0]
    states = reached_by_words(yard, steps, x, y)
    if any(z not in steps for z in states):
        return "open"
    system = System(yard.scale, yard.kind, states, {z: steps[z] for z in states})
    return "held" if within(yard.scale, grade, all_rounds(system, system)[-1][(x, y)]) else "broken"


def yards():
    """Yards of several kinds and scales, behind random calls, with pairs that are whole and such that are not."""
    chance = random.Random(1)
    for scale in (COST, LevelScale(2), SetScale(["p", "q"])):
        for kind in kinds(scale):
            yard = grown_yard(chance, 12, ["c", "a", "b"], kind, scale)[0]
            system = likely_system(kind, scale, ["c", "a", "b"], chance)
            for x in system.states()[:chance.choice([2, 3, 3, 3])]:
                yard.do(("tell", x, system.step(x)))
            for _ in range(5):
                yard.do(("claim", chance.choice("abc"), chance.choice("abc"), chance.choice(scale.grades())))
            yield yard


class SystemTest(Checks, unittest.TestCase):

    def test_examples(self):
        yard = sample()
        for x, y, told in [("a", "a", []), ("a", "b", ["d"]), ("b", "a", ["d"]), ("d", "d", ["d"]), ("e", "a", []), ("c", "e", ["d"])]:
            self.check_alike(open_states(yard, 4, x, y), told)
        self.check_alike(open_states(yard, 2, "b", "e"), ["e", "c"])
        self.check_alike(open_states(yard, 0, "b", "e"), ["e", "b"])
        self.check_alike(open_states(yard, 0, "b", "b"), ["b"])
        system = system_at(yard, 4, "a", "e")
        self.assertTrue(system == System(COST, PINKS, ["e", "a"], {"a": ("red", []), "e": ("red", [("e", "1")])}))
        self.check_raises(OpenState, system_at, yard, 2, "b", "e", name="e")
        self.check_raises(OpenState, near_at, yard, 4, "a", "c", name="d")
        yard.do(("tell", "d", ("pink", [("b", "0"), ("a", "2")])))
        system = system_at(yard, 5, "c", "c")
        self.check_alike(system.states(), ["d", "c", "b", "a"])
        self.check_alike(near_at(yard, 5, "c", "c"), "0")
        self.check_alike(near_at(yard, 5, "a", "e"), "0")
        self.check_alike(near_at(yard, 5, "e", "a"), "2")
        # The elder moment is as it was.
        self.check_raises(OpenState, near_at, yard, 4, "c", "c", name="d")

    def test_by_the_words(self):
        seen_words = set()
        for yard in yards():
            for number in (0, len(yard) // 2, len(yard) - 1):
                steps = yard.moment(number)[0]
                for x in yard.states():
                    for y in yard.states():
                        states = reached_by_words(yard, steps, x, y)
                        waiting = [z for z in states if z not in steps]
                        self.check_alike(open_states(yard, number, x, y), waiting)
                        seen_words.add(len(waiting))
                        if waiting:
                            self.check_raises(OpenState, system_at, yard, number, x, y, name=waiting[0])
                            self.check_raises(OpenState, near_at, yard, number, x, y, name=waiting[0])
                            continue
                        system = system_at(yard, number, x, y)
                        self.assertIs(type(system), System)
                        self.assertTrue(system.scale == yard.scale and system.kind == yard.kind)
                        self.check_alike(system.states(), states)
                        self.check_alike(steps_of(system), {z: steps[z] for z in states})
                        self.check_alike(near_at(yard, number, x, y), all_rounds(system, system)[-1][(x, y)])
                        self.check_alike(near_at(yard, number, x, y), near(system, system, x, y))
        self.assertTrue({0, 1, 2} <= seen_words)

    def test_errors(self):
        yard = sample()
        for call in (open_states, system_at, near_at, verdict):
            for value in any_values() + [5]:
                if isinstance(value, bool) or value not in (0, 1, 3):
                    self.check_raises(NoState, call, yard, value, None, None, number=value)
                self.check_raises(UnknownState, call, yard, 0, value, None, name=value)
                self.check_raises(UnknownState, call, yard, 0, "a", value, name=value)
            self.check_raises(UnknownState, call, yard, 0, "y", "x", name="y")
        for value in any_values() + [5]:
            if isinstance(value, bool) or value not in (0, 1, 3):
                self.check_raises(NoState, verdicts, yard, value, number=value)

    def test_new_lists(self):
        yard = sample()
        told = open_states(yard, 0, "a", "b")
        self.assertTrue(share_nothing(told, open_states(yard, 0, "a", "b")))
        spoil(told)
        spoil(system_at(yard, 4, "a", "a").states())
        self.check_alike(open_states(yard, 0, "a", "b"), ["b", "a"])


class VerdictTest(Checks, unittest.TestCase):

    def check_held(self, yard, number, x, y, grade, told):
        word, paper = told
        self.assertEqual(word, "held")
        system = system_at(yard, number, x, y)
        self.assertIsNone(judge_paper(system, system, paper))
        if grade == yard.scale.none:
            self.check_alike(paper, ())
        else:
            self.assertTrue(within(yard.scale, grade, {row[:2]: row[2] for row in paper}[(x, y)]))

    def check_broken(self, yard, number, x, y, grade, told):
        word, (lines, line) = told
        self.assertEqual(word, "broken")
        self.assertIsInstance(lines, tuple)
        system = system_at(yard, number, x, y)
        self.assertIs(judge_lines(system, system, x, y, grade, lines, line), True)
        rounds = round_below(system, system, x, y, grade)
        if rounds < 3 and caught(written_out, yard.kind, yard.scale, lines, line) is None:
            self.assertEqual(depth(yard.kind, yard.scale, written_out(yard.kind, yard.scale, lines, line)), rounds)
        for fewer in range(rounds):
            own, numbers = told_lines(system, fewer)
            self.assertIs(judge_lines(system, system, x, y, grade, own, numbers[x]), False)

    def test_examples(self):
        yard = sample()
        for x, y, grade in [("a", "a", "0"), ("a", "e", "1"), ("e", "a", "1"), ("a", "b", "0"), ("d", "a", "none"), ("e", "e", "none")]:
            yard.do(("claim", x, y, grade))
        number = yard.present()
        self.check_alike(verdicts(yard, number), [
            ("e", "e", "held"), ("e", "a", "broken"), ("d", "a", "open"), ("a", "e", "held"), ("a", "b", "open"), ("a", "a", "held")])
        self.check_held(yard, number, "a", "a", "0", verdict(yard, number, "a", "a"))
        self.check_held(yard, number, "a", "e", "1", verdict(yard, number, "a", "e"))
        self.check_alike(verdict(yard, number, "e", "e"), ("held", ()))
        self.check_broken(yard, number, "e", "a", "1", verdict(yard, number, "e", "a"))
        self.check_alike(verdict(yard, number, "a", "b"), ("open", ("d",)))
        self.check_alike(verdict(yard, number, "d", "a"), ("open", ("d",)))
        # At elder moments.
        self.check_alike(verdicts(yard, 4), [])
        self.check_alike(verdicts(yard, 6), [("a", "e", "held"), ("a", "a", "held")])
        self.check_raises(NotTold, verdict, yard, 4, "a", "a", name=("a", "a"))
        self.check_raises(NotTold, verdict, yard, number, "b", "a", name=("b", "a"))
        self.check_raises(NotTold, verdict, yard, number, "d", "d", name=("d", "d"))

    def test_several_that_are_open(self):
        yard = any_yard()
        yard.do(("claim", "a", "b", "0"))
        self.check_alike(verdict(yard, 1, "a", "b"), ("open", ("a", "b")))
        yard.do(("tell", "a", ("red", [("b", "1"), ("c", "1")])))
        self.check_alike(verdict(yard, 2, "a", "b"), ("open", ("c", "b")))
        # Also what is claimed with the grade none is open then.
        yard.do(("claim", "a", "b", "none"))
        self.check_alike(verdict(yard, 3, "a", "b"), ("open", ("c", "b")))
        self.check_alike(verdicts(yard, 3), [("a", "b", "open")])

    def test_told_anew_and_withdrawn(self):
        yard = sample()
        yard.do(("claim", "a", "e", "0"))
        yard.do(("claim", "a", "e", "none"))
        yard.do(("tell", "a", ("pink", [])))
        yard.do(("claim", "a", "e", "0"))
        yard.do(("withdraw", "a", "e"))
        self.check_alike([verdicts(yard, number) for number in range(4, 10)], [
            [], [("a", "e", "held")], [("a", "e", "held")], [("a", "e", "held")], [("a", "e", "broken")], []])

    def test_by_the_words(self):
        words = {"held": 0, "broken": 0, "open": 0}
        for yard in yards():
            for number in {0, len(yard) // 2, len(yard) - 1}:
                claims = yard.moment(number)[1]
                told = [(x, y, word_by_words(yard, number, x, y, grade)) for x, y, grade in claims]
                self.check_alike(verdicts(yard, number), told)
                for (x, y, grade), (_, _, word) in zip(claims, told):
                    words[word] += 1
                    shown = verdict(yard, number, x, y)
                    if word == "open":
                        self.check_alike(shown, ("open", tuple(open_states(yard, number, x, y))))
                    elif word == "held":
                        self.check_held(yard, number, x, y, grade, shown)
                    else:
                        self.check_broken(yard, number, x, y, grade, shown)
        self.assertTrue(min(words.values()) > 30, words)

    def test_new_ones(self):
        yard = sample()
        yard.do(("claim", "a", "a", "0"))
        told = verdicts(yard, 5)
        self.assertTrue(share_nothing(told, verdicts(yard, 5)))
        spoil(told)
        self.check_alike(verdicts(yard, 5), [("a", "a", "held")])

    def test_eight_states_with_all_claims(self):
        chance = random.Random(3)
        states = list("hgfedcba")
        kind = ("both", ("names", hues(COST)), ("kept", ("both", NEXT, NEXT)))
        system = likely_system(kind, COST, states, chance, 12)
        yard = Yard(COST, kind, states)
        tried(yard, [("tell", x, system.step(x)) for x in states])
        tried(yard, [("claim", x, y, chance.choice(COST.grades())) for x in states for y in states])
        told = verdicts(yard, yard.present())
        self.check_alike([row[:2] for row in told], [(x, y) for x in states for y in states])
        for x, y, word in chance.sample(told, 6):
            self.check_alike(verdict(yard, yard.present(), x, y)[0], word)


class ChangeTest(Checks, unittest.TestCase):

    def test_examples(self):
        yard = sample()
        tried(yard, [("claim", "a", "e", "1"), ("claim", "e", "a", "1"), ("claim", "b", "b", "0"), ("claim", "c", "a", "2")])
        before = seen(yard)
        for deeds, told in [
            ([], []), ([("claim", "a", "e", "0")], []), ([("drop", "a")], [
                ("e", "a", "broken", "open"), ("a", "e", "held", "open")]),
            ([("withdraw", "a", "e"), ("claim", "a", "a", "0")], [("a", "e", "held", None), ("a", "a", None, "held")]),
            ([("tell", "d", ("red", []))], [("c", "a", "open", "broken"), ("b", "b", "open", "held")]),
            ([("tell", "d", ("red", [])), ("withdraw", "b", "b"), ("claim", "d", "d", "none")], [
                ("d", "d", None, "held"), ("c", "a", "open", "broken"), ("b", "b", "open", None)]),
            ([("tell", "e", ("red", []))], [("e", "a", "broken", "held")]),
            ([("withdraw", "a", "e"), ("claim", "a", "e", "1")], []), ([("drop", "a"), ("tell", "a", ("red", []))], []),
        ]:
            self.check_alike(would_change(yard, deeds), told)
            self.check_alike(would_change(yard, tuple(deeds)), told)
            self.check_alike(seen(yard), before)

    def test_by_the_words(self):
        chance = random.Random(4)
        changed, failed = 0, 0
        for yard in yards():
            for _ in range(3):
                deeds = [random_deed(yard, chance) for _ in range(chance.randrange(4))]
                before, other = seen(yard), yard.twin()
                error = caught(tried, other, deeds)
                if error is not None:
                    self.check_raises(type(error), would_change, yard, deeds, **vars(error))
                    failed += 1
                else:
                    now = {row[:2]: row[2] for row in verdicts(yard, yard.present())}
                    behind = {row[:2]: row[2] for row in verdicts(other, other.present())}
                    told = [(x, y, now.get((x, y)), behind.get((x, y))) for x in yard.states() for y in yard.states()
                            if now.get((x, y)) != behind.get((x, y))]
                    self.check_alike(would_change(yard, deeds), told)
                    changed += len(told) > 0
                self.check_alike(seen(yard), before)
        self.assertTrue(changed > 20 and failed > 20, (changed, failed))

    def test_errors(self):
        yard = sample()
        for value in any_values():
            self.check_raises(BadDeed, would_change, yard, [("drop", "a"), value])
        self.check_raises(NotTold, would_change, yard, [("drop", "a"), ("drop", "a")], name="a")
        self.check_raises(UnknownGrade, would_change, yard, [("claim", "a", "a", "9")], name="9")
        self.check_raises(UnknownState, would_change, yard, [("claim", "x", "y", "9")], name="x")
        self.check_raises(TooMany, would_change, yard, [("claim", "a", "a", "0")] * 196)
        self.check_alike(would_change(yard, [("claim", "a", "a", "0")] * 195), [("a", "a", None, "held")])
        self.assertEqual((len(yard), yard.do(("drop", "a"))), (5, 5))

    def test_in_a_branch_and_behind_an_undo(self):
        yard = sample()
        yard.branch("other")
        yard.do(("claim", "a", "a", "0"))
        self.check_alike(would_change(yard, [("drop", "a")]), [("a", "a", "held", "open")])
        yard.undo()
        self.check_alike(would_change(yard, [("drop", "a")]), [])
        self.assertEqual(yard.redo(), 5)
        yard.go("other")
        self.check_alike(would_change(yard, [("claim", "a", "a", "0"), ("drop", "a")]), [("a", "a", None, "open")])

    def test_nothing_is_changed_or_kept(self):
        yard = sample()
        deeds = [("tell", "d", ("red", [("d", "1")])), ("claim", "d", "d", "0")]
        told = would_change(yard, deeds)
        self.check_alike(deeds, [("tell", "d", ("red", [("d", "1")])), ("claim", "d", "d", "0")])
        self.assertTrue(share_nothing(told, would_change(yard, deeds), deeds))
        self.check_alike(told, [("d", "d", None, "held")])

    def test_no_states(self):
        yard = Yard(COST, KIND, [])
        self.check_alike(verdicts(yard, 0), [])
        self.check_alike(would_change(yard, []), [])
        self.assertEqual(STATES, ["c", "a", "b"])


if __name__ == "__main__":
    unittest.main()
