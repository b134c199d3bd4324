"""The names of the interface: each defined in its own file, with just its arguments."""

import ast
import importlib
import inspect
import pathlib
import unittest

from neargrades.scales import CostScale, PairScale
from neargrades.scalemaps import ScaleMap
from neargrades.spaces import Space
from neargrades.systems import System
from neargrades.yard import Yard
from tests.samples import PACKAGE, lawful_scales

FOLDER = pathlib.Path(__file__).resolve().parent.parent / PACKAGE

FUNCTIONS = {
    "scales": ["first_fault(scale)"],
    "residues": ["within(scale, a, b)", "height(scale)", "idempotent(scale)"],
    "scalemaps": ["all_maps(source, target)", "keeps_only(m)"],
    "spaces": ["closed_space(scale, names, steps)", "near_classes(space, grade)", "led_space(m, space)",
               "space_of(scale, names, table)"],
    "tables": ["behind(scale, table, other)", "joined_tables(scale, table, other)", "met_tables(scale, table, other)",
               "turned_table(scale, table)", "led_table(m, table)", "same_table(scale, names)", "space_table(space)",
               "table_within(scale, table, other)", "tables_alike(scale, table, other)"],
    "kinds": ["check_kind(kind, scale)", "stones(kind)", "kind_at(kind, path)", "has_next(kind)"],
    "values": ["value_of(kind, scale, states, data)", "is_value(kind, scale, states, value)",
               "is_ahead(kind, scale, states, value, other)", "states_in(kind, value)", "parts_in(kind, value)",
               "led_value(kind, scale, states, value, images)"],
    "kindtexts": ["write_kind(kind, spaces)", "read_kind(scale, spaces, text)", "write_value(kind, value)",
                  "read_value(kind, scale, states, text)"],
    "systems": ["made_system(scale, kind, states, steps)", "reached_from(system, states)", "part_from(system, states)",
                "summed(system, other)", "both_side(system, other)", "with_step(system, name, data)",
                "without_state(system, name)"],
    "systemtexts": ["write_system(system)", "read_system(scale, kind, text)"],
    "lifting": ["lifted(kind, scale, table, v, w)"],
    "rounds": ["stepped(system, other, table, x, y)", "first_table(system, other)", "round_of(system, other, table)",
               "tables(system, other, count)", "nearness(system, other)", "near(system, other, x, y)",
               "first_open(system, other, table)", "round_below(system, other, x, y, grade)"],
    "asking": ["whole_pairs(system, other, pairs)", "nearness_on(system, other, pairs)",
               "nearness_one_by_one(system, other, order)"],
    "judging": ["judge_paper(system, other, value)", "paper_table(system, other, value)"],
    "papers": ["paper_of(system, other, pairs)", "claim_paper(system, other, x, y, grade)",
               "thinned(system, other, paper, x, y)", "joined(system, other, paper, second)",
               "cut(system, other, paper, pairs)", "behind_papers(system, middle, other, paper, second)"],
    "turning": ["turned_kind(kind)", "turned_system(system)", "turned_paper(paper)"],
    "ladders": ["judge_ladder(system, other, value)", "ladder_of(system, other, pairs, rounds)"],
    "sayings": ["check_saying(kind, scale, saying)", "depth(kind, scale, saying)", "parts_of(kind, scale, saying)",
                "shared(kind, scale, saying)", "written_out(kind, scale, lines, number)"],
    "worths": ["worth_at(system, x, saying)", "worths(system, saying)", "value_worth(system, value, saying)",
               "line_worths(system, lines, number)"],
    "told": ["told_saying(system, x, rounds)", "told_value(system, value, rounds)", "told_lines(system, rounds)",
             "parting(system, other, x, y, grade)", "parting_lines(system, other, x, y, grade)",
             "judge_saying(system, other, x, y, grade, saying)", "judge_lines(system, other, x, y, grade, lines, number)",
             "thinned_saying(system, other, x, y, grade, saying)"],
    "sayingtexts": ["write_saying(saying)", "read_saying(text)"],
    "classes": ["classes(system, e)", "first_of(system, e, x)", "all_classes(system)", "partners(system, other, e)",
                "check_blocks(system, e, blocks)"],
    "folds": ["folded(system, e, *, blocks=None)", "fold_paper(system, e, *, blocks=None)",
              "unfold_paper(system, e, *, blocks=None)"],
    "pruning": ["needless(system, x)", "pruned(system)"],
    "led": ["mapped_kind(m, kind)", "mapped_system(m, system)", "mapped_value(m, kind, states, value)",
            "mapped_paper(m, paper)", "mapped_saying(m, saying)", "keeps_meets(m)", "first_less(m, system, other)"],
    "turns": ["kind_behind(kind, turn)", "value_behind(kind, scale, states, value, turn)", "system_behind(system, turn)",
              "saying_behind(kind, scale, saying, turn)", "saying_ahead(kind, scale, saying, turn)", "all_turns(kind)",
              "renamed(system, images)", "renamed_paper(paper, images, others)"],
    "branches": ["elders(yard, number)", "come_of(yard, number)", "last_common(yard, one, other)", "line_to(yard, number)",
                 "attempt(yard, action)", "tried(yard, deeds)"],
    "claims": ["open_states(yard, number, x, y)", "system_at(yard, number, x, y)", "near_at(yard, number, x, y)",
               "verdict(yard, number, x, y)", "verdicts(yard, number)", "would_change(yard, deeds)"],
}
CLASSES = {
    "scales": {
        "Scale": (None, ["grades()", "join(a, b)", "then(a, b)", "joined(row)", "meet(a, b)", "met(row)", "only(a, b)",
                         "__contains__(x)", "__len__()", "__eq__(other)"]),
        "TableScale": ("(grades, joins, products, *, none, nearest)", []),
        "CostScale": ("(top)", []), "StopScale": ("(top)", []), "LevelScale": ("(top)", []),
        "SetScale": ("(names)", []), "PairScale": ("(left, right)", []),
    },
    "scalemaps": {"ScaleMap": ("(source, target, images)", [
        "same(scale)", "images()", "__call__(grade)", "__rshift__(other)", "__eq__(other)"])},
    "spaces": {"Space": ("(scale, names, rows)", [
        "near(a, b)", "names()", "__contains__(x)", "__len__()", "__eq__(other)"])},
    "systems": {"System": ("(scale, kind, states, steps)", [
        "states()", "step(x)", "__contains__(x)", "__len__()", "__eq__(other)"])},
    "yard": {"Yard": ("(scale, kind, states)", [
        "states()", "do(deed)", "present()", "moment(number)", "now()", "log()", "undo()", "redo()", "branch(name)", "go(name)",
        "here()", "branches()", "trail(name)", "mark(name)", "merge(name)", "twin()", "__len__()", "__eq__(other)"])},
}


def module(name):
    return importlib.import_module(f"{PACKAGE}.{name}")


def defined_in(name):
    """The functions and classes that a file defines at its top."""
    tree = ast.parse((FOLDER / f"{name}.py").read_text("ascii"))
    return {node.name: node for node in tree.body if isinstance(node, (ast.FunctionDef, ast.ClassDef))}


class InterfaceTest(unittest.TestCase):

    def test_functions(self):
        for name, told in FUNCTIONS.items():
            found = defined_in(name)
            for text in told:
                word = text.partition("(")[0]
                self.assertIsInstance(found.get(word), ast.FunctionDef, text)
                self.assertEqual(word + str(inspect.signature(getattr(module(name), word))), text)

    def test_classes(self):
        for name, told in CLASSES.items():
            found = defined_in(name)
            for word, (arguments, methods) in told.items():
                self.assertIsInstance(found.get(word), ast.ClassDef, word)
                made = getattr(module(name), word)
                if arguments is not None:
                    self.assertEqual(str(inspect.signature(made)), arguments, word)
                bodies = [node.name for node in found[word].body if isinstance(node, ast.FunctionDef)]
                for text in methods:
                    method = text.partition("(")[0]
                    self.assertIn(method, bodies)
                    bound = made.same if method == "same" else inspect.unwrap(vars(made)[method])
                    shown = str(inspect.signature(bound)).replace("(self, ", "(").replace("(self)", "()")
                    self.assertEqual(method + shown, text)

    def test_attributes(self):
        for scale in lawful_scales():
            self.assertIn(scale.none, scale.grades())
            self.assertIn(scale.nearest, scale.grades())
        pair = PairScale(CostScale(0), CostScale(1))
        self.assertEqual((len(pair.left), len(pair.right)), (2, 3))
        m = ScaleMap.same(pair)
        self.assertTrue(m.source == pair and m.target == pair)
        self.assertTrue(Space(pair, [], []).scale == pair)
        system = System(pair, ("next",), [], {})
        self.assertTrue(system.scale == pair)
        self.assertEqual(system.kind, ("next",))
        yard = Yard(pair, ("next",), ["a"])
        self.assertTrue(yard.scale == pair)
        self.assertEqual(yard.kind, ("next",))


if __name__ == "__main__":
    unittest.main()
