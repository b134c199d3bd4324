"""Nothing that is handed in is changed or kept, and what is returned belongs to the caller (0.2)."""

import copy
import unittest

from neargrades import asking, judging, ladders, lifting, papers, rounds, sayings, systemtexts, turning, worths
from neargrades.scales import CostScale
from neargrades.systems import System
from tests.nearsamples import any_system, pairs
from tests.samples import Checks, alike, mutables, share_nothing, spoil

COST = CostScale(2)
SYSTEM = any_system()
PAPER = (("b", "b", "0"), ("a", "c", "none"))
SAYING = ("and", "1", ("step", ("halves", ("like", "red"), ("some", "1"))))
LINES = ["1", ("like", "red"), ("some", 0), ("halves", 1, 2), ("step", 3), ("and", 0, 4)]
# What is handed in besides systems, scales, kinds and strings.
CALLS = [
    (lifting.lifted, SYSTEM.kind, COST, {("a", "b"): "1"}, SYSTEM.step("a"), SYSTEM.step("c")),
    (rounds.stepped, SYSTEM, SYSTEM, {("a", "b"): "1"}, "a", "b"), (rounds.first_table, SYSTEM, SYSTEM),
    (rounds.round_of, SYSTEM, SYSTEM, {("a", "b"): "1", ("b", "a"): "0"}), (rounds.tables, SYSTEM, SYSTEM, 5),
    (rounds.nearness, SYSTEM, SYSTEM), (rounds.near, SYSTEM, SYSTEM, "a", "c"),
    (rounds.first_open, SYSTEM, SYSTEM, {("a", "b"): "1"}), (rounds.round_below, SYSTEM, SYSTEM, "a", "c", "0"),
    (asking.whole_pairs, SYSTEM, SYSTEM, [("a", "a"), ("a", "a")]), (asking.nearness_on, SYSTEM, SYSTEM, [("a", "c")]),
    (asking.nearness_one_by_one, SYSTEM, SYSTEM, pairs(SYSTEM, SYSTEM)[::-1]),
    (judging.judge_paper, SYSTEM, SYSTEM, PAPER), (judging.judge_paper, SYSTEM, SYSTEM, PAPER + (["a", [], {}],)),
    (judging.paper_table, SYSTEM, SYSTEM, PAPER), (papers.paper_of, SYSTEM, SYSTEM, [("a", "a")]),
    (papers.claim_paper, SYSTEM, SYSTEM, "a", "a", "1"), (papers.thinned, SYSTEM, SYSTEM, PAPER, "b", "b"),
    (papers.joined, SYSTEM, SYSTEM, PAPER, PAPER[::-1]), (papers.cut, SYSTEM, SYSTEM, PAPER, [("b", "b")]),
    (papers.behind_papers, SYSTEM, SYSTEM, SYSTEM, PAPER, PAPER), (turning.turned_kind, SYSTEM.kind),
    (turning.turned_paper, PAPER), (ladders.judge_ladder, SYSTEM, SYSTEM, (PAPER, PAPER)),
    (ladders.ladder_of, SYSTEM, SYSTEM, [("a", "a")], 3), (systemtexts.write_system, SYSTEM),
    (sayings.check_saying, SYSTEM.kind, COST, SAYING), (sayings.depth, SYSTEM.kind, COST, SAYING),
    (sayings.parts_of, SYSTEM.kind, COST, SAYING), (sayings.shared, SYSTEM.kind, COST, SAYING),
    (sayings.written_out, SYSTEM.kind, COST, LINES, 5), (worths.worth_at, SYSTEM, "a", SAYING),
    (worths.worths, SYSTEM, SAYING), (worths.value_worth, SYSTEM, SYSTEM.step("a"), SAYING[2][1]),
    (worths.line_worths, SYSTEM, LINES, 5),
]


class SharingTest(Checks, unittest.TestCase):

    def test_nothing_is_changed_kept_or_shared(self):
        text = systemtexts.write_system(SYSTEM)
        for call, *arguments in CALLS:
            handed = [part if isinstance(part, System) or part is COST else copy.deepcopy(part) for part in arguments]
            first, told = call(*arguments), call(*handed)
            self.assertTrue(all(map(alike, handed, arguments)), call)
            self.assertTrue(share_nothing(told, first, handed), call)
            spoil(handed)
            self.assertTrue(alike(told, first), call)
            for part in mutables(told):
                part.clear()
            self.assertTrue(alike(call(*arguments), first), call)
            self.assertEqual(systemtexts.write_system(SYSTEM), text)

    def test_lists_may_be_tuples(self):
        for call, *arguments in CALLS:
            changed = [tuple(part) if isinstance(part, list) else part for part in arguments]
            self.assertTrue(alike(call(*arguments), call(*changed)), call)

    def test_systems_that_are_read_or_turned_keep_nothing(self):
        for told in (turning.turned_system(SYSTEM), systemtexts.read_system(COST, SYSTEM.kind, "a = (red, {@a * 1})")):
            shown = systemtexts.write_system(told)
            spoil(told.states())
            self.assertEqual(systemtexts.write_system(told), shown)


if __name__ == "__main__":
    unittest.main()
