"""Nothing that is handed in is changed or kept, and what is returned belongs to the caller (0.2)."""

import copy
import unittest

from neargrades import (
    asking, classes, folds, judging, ladders, led, lifting, papers, pruning, rounds, sayings, sayingtexts, systemtexts, told,
    turning, turns, worths,
)
from neargrades.scalemaps import ScaleMap
from neargrades.scales import CostScale
from neargrades.systems import System
from tests.nearsamples import any_system, pairs
from tests.samples import Checks, alike, mutables, share_nothing, spoil

COST = CostScale(2)
SYSTEM = any_system()
PAPER = (("b", "b", "0"), ("a", "c", "none"))
SAYING = ("and", "1", ("step", ("halves", ("like", "red"), ("some", "1"))))
LINES = ["1", ("like", "red"), ("some", 0), ("halves", 1, 2), ("step", 3), ("and", 0, 4)]
PARTING = ("and", "0", ("step", ("halves", ("like", "red"), ("some", "0"))))
MAP = ScaleMap(CostScale(2), CostScale(4), ["0", "2", "4", "none"])
# What is handed in besides systems, scales, kinds and strings.
CALLS = [
    (lifting.lifted, SYSTEM.kind, COST, {("a", "b"): "1"}, SYSTEM.step("a"), SYSTEM.step("c")),
    (rounds.stepped, SYSTEM, SYSTEM, {("a", "b"): "1"}, "a", "b"), (rounds.first_table, SYSTEM, SYSTEM),
    (rounds.round_of, SYSTEM, SYSTEM, {("a", "b"): "1", ("b", "a"): "0"}), (rounds.tables, SYSTEM, SYSTEM, 5),
    (rounds.nearness, SYSTEM, SYSTEM), (rounds.near, SYSTEM, SYSTEM, "a", "c"),
    (rounds.first_open, SYSTEM, SYSTEM, {("a", "b"): "1"}), (rounds.round_below, SYSTEM, SYSTEM, "a", "c", "0"),
    (asking.whole_pairs, SYSTEM, SYSTEM, [("a", "a"), ("a", "a")]), (asking.nearness_on, SYSTEM, SYSTEM, [("a", "c")]),
    (asking.nearness_one_by_one, SYSTEM, SYSTEM, pairs(SYSTEM, SYSTEM)[::-1]),
    (judging.judge_paper, SYSTEM, SYSTEM, PAPER), (judging.judge_paper, SYSTEM, SYSTEM, PAPER + (["a", [], {}],)),
    (judging.paper_table, SYSTEM, SYSTEM, PAPER), (papers.paper_of, SYSTEM, SYSTEM, [("a", "a")]),
    (papers.claim_paper, SYSTEM, SYSTEM, "a", "a", "1"), (papers.thinned, SYSTEM, SYSTEM, PAPER, "b", "b"),
    (papers.joined, SYSTEM, SYSTEM, PAPER, PAPER[::-1]), (papers.cut, SYSTEM, SYSTEM, PAPER, [("b", "b")]),
    (papers.behind_papers, SYSTEM, SYSTEM, SYSTEM, PAPER, PAPER), (turning.turned_kind, SYSTEM.kind),
    (turning.turned_paper, PAPER), (ladders.judge_ladder, SYSTEM, SYSTEM, (PAPER, PAPER)),
    (ladders.ladder_of, SYSTEM, SYSTEM, [("a", "a")], 3), (systemtexts.write_system, SYSTEM),
    (sayings.check_saying, SYSTEM.kind, COST, SAYING), (sayings.depth, SYSTEM.kind, COST, SAYING),
    (sayings.parts_of, SYSTEM.kind, COST, SAYING), (sayings.shared, SYSTEM.kind, COST, SAYING),
    (sayings.written_out, SYSTEM.kind, COST, LINES, 5), (worths.worth_at, SYSTEM, "a", SAYING),
    (worths.worths, SYSTEM, SAYING), (worths.value_worth, SYSTEM, SYSTEM.step("a"), SAYING[2][1]),
    (worths.line_worths, SYSTEM, LINES, 5),
    (told.told_saying, SYSTEM, "a", 2), (told.told_value, SYSTEM, SYSTEM.step("a"), 2), (told.told_lines, SYSTEM, 3),
    (told.parting, SYSTEM, SYSTEM, "a", "b", "0"), (told.parting_lines, SYSTEM, SYSTEM, "a", "b", "0"),
    (told.judge_saying, SYSTEM, SYSTEM, "a", "b", "0", SAYING), (told.judge_saying, SYSTEM, SYSTEM, "a", "b", "0", [{}, []]),
    (told.judge_lines, SYSTEM, SYSTEM, "a", "b", "0", LINES, 5), (told.judge_lines, SYSTEM, SYSTEM, "a", "b", "0", LINES, [5]),
    (told.thinned_saying, SYSTEM, SYSTEM, "a", "b", "0", PARTING), (sayingtexts.write_saying, SAYING),
    (classes.classes, SYSTEM, "0"), (classes.first_of, SYSTEM, "none", "c"), (classes.all_classes, SYSTEM),
    (classes.partners, SYSTEM, SYSTEM, "0"), (classes.check_blocks, SYSTEM, "none", [["c", "a"], ["b"]]),
    (folds.fold_paper, SYSTEM, "0"), (folds.unfold_paper, SYSTEM, "0"), (pruning.needless, SYSTEM, "a"),
    (led.mapped_kind, MAP, SYSTEM.kind), (led.mapped_value, MAP, SYSTEM.kind, ["a", "b", "c"], SYSTEM.step("a")),
    (led.mapped_paper, MAP, PAPER), (led.mapped_saying, MAP, SAYING), (led.keeps_meets, MAP),
    (led.first_less, MAP, SYSTEM, SYSTEM), (turns.kind_behind, SYSTEM.kind, ("swap", ())), (turns.all_turns, SYSTEM.kind),
    (turns.value_behind, SYSTEM.kind, COST, ["a", "b", "c"], SYSTEM.step("a"), ("drop", (), 0)),
    (turns.saying_behind, SYSTEM.kind, COST, SAYING, ("swap", ())),
    (turns.saying_ahead, SYSTEM.kind, COST, ("step", ("some", "1")), ("drop", (), 0)),
    (turns.renamed_paper, PAPER, {"a": "x", "b": "y"}, {"c": "z", "b": "y"}),
]


def tuples_of(value):
    return tuple(tuples_of(part) for part in value) if isinstance(value, list) else value


class SharingTest(Checks, unittest.TestCase):

    def test_nothing_is_changed_kept_or_shared(self):
        text = systemtexts.write_system(SYSTEM)
        for call, *arguments in CALLS:
            handed = [part if isinstance(part, System) or part is COST else copy.deepcopy(part) for part in arguments]
            first, second = call(*arguments), call(*handed)
            self.assertTrue(all(map(alike, handed, arguments)), call)
            self.assertTrue(share_nothing(second, first, handed), call)
            spoil(handed)
            self.assertTrue(alike(second, first), call)
            for part in mutables(second):
                part.clear()
            self.assertTrue(alike(call(*arguments), first), call)
            self.assertEqual(systemtexts.write_system(SYSTEM), text)

    def test_lists_may_be_tuples(self):
        for call, *arguments in CALLS:
            changed = [tuples_of(part) if call is not told.judge_saying else part for part in arguments]
            self.assertTrue(alike(call(*arguments), call(*changed)), call)

    def test_systems_that_are_read_or_turned_keep_nothing(self):
        images = {"a": "x", "b": "y", "c": "z"}
        blocks = [["a"], ["c", "b"]]
        for made in (turning.turned_system(SYSTEM), systemtexts.read_system(COST, SYSTEM.kind, "a = (red, {@a * 1})"),
                     folds.folded(SYSTEM, "0"), folds.folded(SYSTEM, "none", blocks=blocks), pruning.pruned(SYSTEM),
                     led.mapped_system(MAP, SYSTEM), turns.system_behind(SYSTEM, ("swap", ())), turns.renamed(SYSTEM, images)):
            shown = systemtexts.write_system(made)
            spoil(made.states())
            spoil(blocks)
            spoil(images)
            self.assertEqual(systemtexts.write_system(made), shown)
            blocks = [["a"], ["c", "b"]]


if __name__ == "__main__":
    unittest.main()
