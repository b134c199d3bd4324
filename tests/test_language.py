"""What can be seen of the subset of Python that the package keeps to (LANGUAGE.md), rule by rule."""

import ast
import builtins
import pathlib
import re
import unittest

from tests.samples import PACKAGE

FOLDER = pathlib.Path(__file__).resolve().parent.parent / PACKAGE
FILES = sorted(FOLDER.glob("*.py"))
TEXTS = {path.stem: path.read_text("utf-8") for path in FILES}
TREES = {name: ast.parse(text) for name, text in TEXTS.items()}

BUILTINS = set(
    "len range enumerate zip min max sum abs sorted reversed int str bool list tuple dict isinstance ord repr any all "
    "divmod classmethod staticmethod property super ValueError LookupError NotImplemented".split())
METHODS = set(
    "append clear copy count endswith extend find get index insert isalnum isalpha isdigit islower isspace isupper items "
    "join keys ljust lower lstrip partition pop remove replace reverse rfind rjust rpartition rsplit rstrip setdefault "
    "split splitlines startswith strip update upper values zfill bit_length".split())
DOUBLE = set("__init__ __eq__ __len__ __contains__ __rshift__ __call__".split())
NOWHERE = set("register mro elements open input law version_info with_traceback add_note".split())
NO_NAMES = NOWHERE | set(
    "attrgetter breakpoint builtins compile copyright credits delattr dir eval exec exit gc getattr globals hasattr help "
    "id importlib license locals methodcaller os quit setattr type vars sys".split())
NO_ATTRIBUTES = NOWHERE | set(
    "items keys values pop update append clear extend insert remove reverse setdefault sort args encode decode hex fromhex "
    "format format_map as_integer_ratio bit_count conjugate from_bytes is_integer to_bytes".split())
WORDS = ("typing typing_extensions enum Enum IntEnum StrEnum Flag IntFlag Generic Protocol ABC ABCMeta namedtuple NamedTuple "
         "TypedDict TYPE_CHECKING abstractmethod type").split()
PREFIXES = ("_wall", "_pe_", "_dcw_", "_enum_", "_cm_", "_twin_re_", "_lay_", "_law_", "_stub_", "_sre", "_WallAttr")
BARRED = (
    ast.Set, ast.SetComp, ast.GeneratorExp, ast.Yield, ast.YieldFrom, ast.Await, ast.AsyncFunctionDef, ast.AsyncFor,
    ast.AsyncWith, ast.Global, ast.Nonlocal, ast.Div, ast.MatMult, ast.With, ast.Match, ast.NamedExpr, ast.AnnAssign,
    ast.Delete, ast.Assert,
)


def docstrings(tree):
    found = []
    for node in ast.walk(tree):
        if isinstance(node, (ast.Module, ast.ClassDef, ast.FunctionDef)) and ast.get_docstring(node) is not None:
            found.append(node.body[0].value)
    return found


def functions(tree):
    return [node for node in ast.walk(tree) if isinstance(node, (ast.FunctionDef, ast.Lambda))]


def parameters(function):
    told = function.args
    return told.posonlyargs + told.args + told.kwonlyargs + [one for one in (told.vararg, told.kwarg) if one]


def imported(tree):
    return [alias.name for node in tree.body if isinstance(node, ast.ImportFrom) for alias in node.names]


def defined(tree):
    names = []
    for node in tree.body:
        if isinstance(node, (ast.FunctionDef, ast.ClassDef)):
            names.append(node.name)
        elif isinstance(node, ast.Assign):
            names += [target.id for target in node.targets]
    return names


def local_names(tree):
    names = {node.id for node in ast.walk(tree) if isinstance(node, ast.Name) and isinstance(node.ctx, ast.Store)}
    names |= {one.arg for function in functions(tree) for one in parameters(function)}
    names |= {node.name for node in ast.walk(tree) if isinstance(node, ast.ExceptHandler) and node.name}
    names |= {inner.name for node in ast.walk(tree) if isinstance(node, ast.FunctionDef) for inner in ast.walk(node)
              if isinstance(inner, ast.FunctionDef) and inner is not node}
    return names


class LanguageTest(unittest.TestCase):

    def each(self, *classes):
        for name, tree in TREES.items():
            for node in ast.walk(tree):
                if isinstance(node, classes):
                    yield f"{name}:{getattr(node, 'lineno', 0)}", node

    def test_files(self):
        for path in FOLDER.iterdir():
            if path.name != "__pycache__":
                self.assertRegex(path.name, r"^[a-z_][a-z0-9_]*\.py$")
        for name, text in TEXTS.items():
            self.assertTrue(all(sign == "\n" or " " <= sign <= "~" for sign in text), name)
            rows = text.split("\n")
            self.assertLessEqual(len(rows), 399, name)
            self.assertLessEqual(max(map(len, rows)), 120, name)
            self.assertIsNotNone(ast.get_docstring(TREES[name]), name)

    def test_functions_are_small(self):
        for place, node in self.each(ast.FunctionDef):
            self.assertLessEqual(node.end_lineno - node.lineno + 1, 40, place)

    def test_imports(self):
        reached = {}
        for name, tree in TREES.items():
            heads = [node for node in tree.body if not isinstance(node, ast.Expr)]
            count = len([node for node in ast.walk(tree) if isinstance(node, (ast.Import, ast.ImportFrom))])
            self.assertTrue(all(isinstance(node, ast.ImportFrom) for node in heads[:count]), name)
            reached[name] = set()
            for node in heads[:count]:
                package, _, other = node.module.partition(".")
                self.assertEqual((package, node.level), (PACKAGE, 0), name)
                reached[name].add(other)
                for alias in node.names:
                    self.assertIsNone(alias.asname)
                    self.assertIn(alias.name, defined(TREES[other]), name)
                    used = {inner.id for inner in ast.walk(tree) if isinstance(inner, ast.Name)}
                    self.assertIn(alias.name, used, name)
        while any(reached.values()):
            ends = [name for name, others in reached.items() if not others]
            self.assertNotEqual(ends, [], "files import from each other")
            reached = {name: others - set(ends) for name, others in reached.items() if name not in ends}

    def test_module_level(self):
        for name, tree in TREES.items():
            for node in tree.body:
                self.assertIsInstance(node, (ast.Expr, ast.ImportFrom, ast.FunctionDef, ast.ClassDef, ast.Assign), name)
                if isinstance(node, ast.Assign):
                    self.assertEqual(len(node.targets), 1)
                    inside = [type(inner) for inner in ast.walk(node.value)]
                    self.assertFalse({ast.Call, ast.ListComp, ast.DictComp, ast.Lambda, ast.BinOp} & set(inside), name)
                    self.assertLessEqual(len([kind for kind in inside if kind in (ast.List, ast.Dict)]), 1, name)
            names = imported(tree) + defined(tree)
            self.assertEqual(len(names), len(set(names)), name)

    def test_barred_forms(self):
        for place, node in self.each(*BARRED):
            self.fail(f"{place} {node!r}")
        for place, node in self.each(ast.Constant):
            self.assertIsInstance(node.value, (int, str, bool, type(None)), place)
            if isinstance(node.value, str):
                self.assertNotIn("%", node.value, place)
                self.assertFalse(node.value.endswith(("._", ".__")), place)
        for place, node in self.each(ast.Compare):
            for act, other in zip(node.ops, node.comparators):
                if isinstance(act, (ast.Is, ast.IsNot)):
                    self.assertIn(getattr(other, "value", 0), (None, True, False), place)
        for place, node in self.each(ast.BinOp):
            if isinstance(node.op, ast.Pow):
                self.assertIsInstance(node.right, ast.Constant, place)

    def test_functions_have_plain_parameters(self):
        for place, node in self.each(ast.FunctionDef, ast.Lambda):
            told = node.args
            self.assertEqual((told.defaults, told.posonlyargs), ([], []), place)
            for one in told.kw_defaults:
                self.assertIsNone(one and one.value, place)
            self.assertIsNone(told.vararg or told.kwarg, place)
            for one in parameters(node):
                self.assertIsNone(one.annotation, place)
        for place, node in self.each(ast.FunctionDef):
            self.assertIsNone(node.returns, place)
            self.assertIn([ast.unparse(one) for one in node.decorator_list], ([], ["classmethod"]), place)

    def test_names(self):
        for name, tree in TREES.items():
            names = local_names(tree)
            self.assertFalse(names & (set(imported(tree)) | {node.name for node in tree.body if isinstance(
                node, ast.ClassDef)}), name)
            everything = names | set(defined(tree)) | set(imported(tree))
            self.assertFalse(everything & set(dir(builtins)), name)
            self.assertFalse(everything & NO_NAMES, name)
            for word in everything:
                self.assertRegex(word, r"^(_|_?[A-Za-z][A-Za-z0-9_]*)$")
                self.assertFalse(word.startswith(PREFIXES), word)
        for place, node in self.each(ast.FunctionDef):
            if node.name.startswith("__"):
                self.assertIn(node.name, DOUBLE, place)

    def test_functions_do_not_hide_those_of_their_file(self):
        for name, tree in TREES.items():
            top = {node.name for node in tree.body if isinstance(node, ast.FunctionDef)}
            self.assertFalse(top & local_names(tree), name)

    def test_builtins(self):
        for name, tree in TREES.items():
            known = local_names(tree) | set(defined(tree)) | set(imported(tree))
            for node in ast.walk(tree):
                if isinstance(node, ast.Name) and isinstance(node.ctx, ast.Load) and node.id not in known:
                    self.assertIn(node.id, BUILTINS, f"{name}:{node.lineno}")
                    called = {inner.func for inner in ast.walk(tree) if isinstance(inner, ast.Call)}
                    if node.id in ("len", "sorted", "sum", "min", "max", "any", "all", "range"):
                        self.assertIn(node, called, f"{name}:{node.lineno}")

    def test_attributes(self):
        own = {node.name for tree in TREES.values() for node in ast.walk(tree) if isinstance(node, ast.FunctionDef)}
        for place, node in self.each(ast.Call):
            if isinstance(node.func, ast.Attribute) and not node.func.attr.startswith("__"):
                self.assertIn(node.func.attr, METHODS | own, place)
        for place, node in self.each(ast.Attribute):
            self.assertNotIn(node.attr, NOWHERE, place)
            if isinstance(node.ctx, ast.Store):
                self.assertNotIn(node.attr, NO_ATTRIBUTES, place)
                self.assertNotIn(node.attr, own, place)

    def test_classes(self):
        for place, node in self.each(ast.ClassDef):
            self.assertEqual((node.decorator_list, node.keywords), ([], []), place)
            methods = [inner.name for inner in node.body if isinstance(inner, ast.FunctionDef)]
            self.assertEqual(len(methods), len(set(methods)), place)
            for inner in node.body:
                self.assertIsInstance(inner, (ast.FunctionDef, ast.Expr), place)

    def test_errors(self):
        own = {node.name for node in TREES["errors"].body if isinstance(node, ast.ClassDef)}
        for place, node in self.each(ast.Raise):
            self.assertIsInstance(node.exc, ast.Call, place)
            self.assertIn(node.exc.func.id, own, place)
            self.assertIsNone(node.cause, place)
        for place, node in self.each(ast.ExceptHandler):
            caught = node.type.elts if isinstance(node.type, ast.Tuple) else [node.type]
            self.assertTrue(all(one.id in own for one in caught), place)

    def test_loops(self):
        # What a loop iterates over by name is not changed in it.
        for place, node in self.each(ast.For):
            over = ast.unparse(node.iter)
            for inner in node.body:
                for call in ast.walk(inner):
                    if isinstance(call, ast.Call) and isinstance(call.func, ast.Attribute):
                        self.assertNotEqual(ast.unparse(call.func.value), over, place)
        for place, node in self.each(ast.Call):
            if isinstance(node.func, ast.Name) and node.func.id in ("zip", "enumerate", "reversed"):
                self.fail(f"{place}: {node.func.id} is not used here so far")
            if isinstance(node.func, ast.Name) and node.func.id in ("any", "all", "sum", "min", "max", "sorted"):
                self.assertNotIsInstance(node.args[0], ast.GeneratorExp, place)

    def test_nothing_is_nested_in_init(self):
        for place, node in self.each(ast.FunctionDef):
            if node.name == "__init__":
                for inner in list(ast.walk(node))[1:]:
                    self.assertNotIsInstance(inner, (ast.FunctionDef, ast.Lambda, ast.Return), place)

    def test_methods_are_not_passed_on(self):
        own = {node.name for tree in TREES.values() for one in ast.walk(tree) if isinstance(one, ast.ClassDef)
               for node in one.body if isinstance(node, ast.FunctionDef)}
        for name, tree in TREES.items():
            called = [node.func for node in ast.walk(tree) if isinstance(node, ast.Call)]
            for node in ast.walk(tree):
                if isinstance(node, ast.Attribute) and isinstance(node.ctx, ast.Load) and node not in called:
                    self.assertNotIn(node.attr, own | METHODS, f"{name}:{node.lineno}")

    def test_one_lambda_in_a_line(self):
        for name, tree in TREES.items():
            rows = [node.lineno for node in ast.walk(tree) if isinstance(node, ast.Lambda)]
            self.assertEqual(len(rows), len(set(rows)), name)

    def test_words_that_do_not_occur(self):
        for name, text in TEXTS.items():
            told = [node.lineno for node in docstrings(TREES[name])]
            for node in ast.walk(TREES[name]):
                if isinstance(node, ast.Constant) and isinstance(node.value, str) and node.lineno not in told:
                    self.assertFalse(set(re.findall(r"[A-Za-z_]+", node.value)) & set(WORDS), f"{name}:{node.lineno}")
                if isinstance(node, ast.Name):
                    self.assertNotIn(node.id, WORDS, name)
            self.assertNotIn("_wall", text)
            self.assertNotIn("__name__", text)


if __name__ == "__main__":
    unittest.main()
