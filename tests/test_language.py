"""Holds the package to what can be seen file by file of the small language, narrower where it needs no more."""

import ast
import builtins
import re
import unittest
from pathlib import Path

PACKAGE = Path(__file__).resolve().parent.parent / "denseparts"

STATEMENTS = (ast.Module, ast.FunctionDef, ast.ClassDef, ast.Assign, ast.AugAssign, ast.If, ast.While, ast.For,
              ast.Return, ast.Break, ast.Continue, ast.Pass, ast.Raise, ast.Expr, ast.ImportFrom)
EXPRESSIONS = (ast.Constant, ast.Name, ast.Attribute, ast.Subscript, ast.Slice, ast.Call, ast.Compare, ast.BoolOp,
               ast.UnaryOp, ast.BinOp, ast.IfExp, ast.List, ast.Tuple, ast.Dict, ast.ListComp, ast.comprehension,
               ast.Lambda, ast.JoinedStr, ast.FormattedValue)
SIGNS = (ast.operator, ast.unaryop, ast.boolop, ast.cmpop, ast.expr_context, ast.arguments, ast.arg, ast.keyword,
         ast.alias)
NOT_ALLOWED = (ast.Div, ast.MatMult, ast.Is, ast.IsNot, ast.Pow)

OWN_OF_PYTHON = set(
    "len range enumerate zip min max sum abs sorted reversed int str bool list tuple dict set isinstance ord repr any"
    " all divmod Exception ValueError TypeError KeyError IndexError LookupError ZeroDivisionError ArithmeticError"
    " OverflowError RuntimeError NotImplementedError AttributeError StopIteration".split())
METHODS = set(
    "append clear copy count endswith extend find get index insert isalnum isalpha isdigit islower isspace isupper"
    " items join keys ljust lower lstrip partition pop remove replace reverse rfind rjust rpartition rsplit rstrip"
    " setdefault split splitlines startswith strip update upper values zfill bit_length".split())
WORDS = re.compile(
    r"\b(type|typing|typing_extensions|enum|Enum|IntEnum|StrEnum|Flag|IntFlag|Generic|Protocol|ABC|ABCMeta|namedtuple"
    r"|NamedTuple|TypedDict|TYPE_CHECKING|abstractmethod)\b|dataclass|overload|contextmanager")


def files():
    return sorted(path for path in PACKAGE.rglob("*") if path.is_file() and "__pycache__" not in path.parts)


def trees():
    return [(path.name, ast.parse(path.read_text(encoding="utf-8"))) for path in files()]


def walked_with_parents(kind):
    found = []
    for name, tree in trees():
        for parent in ast.walk(tree):
            found += [(name, parent, child) for child in ast.iter_child_nodes(parent) if isinstance(child, kind)]
    return found


def called(found):
    return found.func.id if isinstance(found, ast.Call) and isinstance(found.func, ast.Name) else None


def walked(*kinds):
    return [(name, found) for name, tree in trees() for found in ast.walk(tree) if isinstance(found, kinds)]


class Language(unittest.TestCase):
    def test_files(self):
        self.assertIn("graphs.py", [path.name for path in files()])
        for path in files():
            self.assertRegex(path.name, r"^([a-z][a-z0-9_]*|__init__)\.py$")

    def test_signs_words_and_sizes(self):
        for path in files():
            text = path.read_text(encoding="utf-8")
            self.assertRegex(text, r"\A[ -~\n]*\Z", path.name)
            self.assertIsNone(WORDS.search(text), path.name)
            rows = text.splitlines()
            self.assertLessEqual(len(rows), 400, path.name)
            self.assertLessEqual(max(len(row) for row in rows), 120, path.name)
        for name, found in walked(ast.FunctionDef):
            self.assertLessEqual(found.end_lineno - found.lineno + 1, 40, (name, found.name))

    def test_only_the_forms_that_are_told(self):
        for name, found in walked(ast.AST):
            place = (name, getattr(found, "lineno", None), found)
            self.assertIsInstance(found, STATEMENTS + EXPRESSIONS + SIGNS, place)
            self.assertNotIsInstance(found, NOT_ALLOWED, place)
            self.assertFalse(getattr(found, "decorator_list", []), place)

    def test_one_target_and_no_else_behind_a_loop(self):
        for name, found in walked(ast.Assign):
            self.assertEqual(len(found.targets), 1, (name, found.lineno))
        for name, found in walked(ast.For, ast.While):
            self.assertEqual(found.orelse, [], (name, found.lineno))

    def test_whole_numbers_and_texts_alone(self):
        for name, found in walked(ast.Constant):
            self.assertIn(type(found.value), (int, str, bool, type(None)), (name, found.lineno))

    def test_names(self):
        for name, found in walked(ast.Name):
            self.assertFalse(found.id.startswith("_"), (name, found.lineno))
            if found.id in dir(builtins):
                self.assertIn(found.id, OWN_OF_PYTHON, (name, found.lineno))
                self.assertIsInstance(found.ctx, ast.Load, (name, found.lineno))
        for name, found in walked(ast.arg):
            self.assertNotIn(found.arg, dir(builtins), (name, found.lineno))

    def test_parameters_are_plain(self):
        for name, found in walked(ast.arguments):
            self.assertEqual((found.vararg, found.kwarg), (None, None), name)
            self.assertEqual((found.kwonlyargs, found.posonlyargs), ([], []), name)

    def test_methods_are_those_told_or_own(self):
        own = {inner.name for _, found in walked(ast.ClassDef) for inner in found.body
               if isinstance(inner, ast.FunctionDef)}
        for name, found in walked(ast.Call):
            if isinstance(found.func, ast.Attribute):
                self.assertIn(found.func.attr, METHODS | own, (name, found.lineno))

    def test_imports_are_the_packages_own(self):
        for name, found in walked(ast.ImportFrom):
            self.assertEqual(found.level, 0, name)
            self.assertTrue(found.module.startswith("denseparts."), (name, found.lineno))

    def test_the_top_of_a_file(self):
        for name, tree in trees():
            bound = []
            for place, found in enumerate(tree.body):
                if place == 0:
                    self.assertIsNotNone(ast.get_docstring(tree), name)
                elif isinstance(found, ast.Assign):
                    ast.literal_eval(found.value)
                    bound += [target.id for target in found.targets]
                else:
                    self.assertIsInstance(found, (ast.FunctionDef, ast.ClassDef, ast.ImportFrom), (name, found.lineno))
                    bound += [found.name] if not isinstance(found, ast.ImportFrom) else []
            self.assertEqual(len(bound), len(set(bound)), name)

    def test_a_comprehension_has_one_for_and_at_most_one_if(self):
        for name, found in walked(ast.ListComp):
            self.assertEqual(len(found.generators), 1, (name, found.lineno))
            self.assertLessEqual(len(found.generators[0].ifs), 1, (name, found.lineno))

    def test_sets_are_not_kept(self):
        for name, parent, found in walked_with_parents(ast.Call):
            if called(found) == "set":
                self.assertIn(called(parent), ("sorted", "len"), (name, found.lineno))

    def test_what_is_walked_is_walked_at_once(self):
        for name, parent, found in walked_with_parents(ast.Call):
            if called(found) in ("zip", "enumerate", "reversed", "range"):
                looped = isinstance(parent, (ast.For, ast.comprehension)) and parent.iter is found
                inside = called(parent) in ("list", "tuple", "dict", "sorted", "sum", "any", "all", "enumerate", "zip")
                self.assertTrue(looped or inside, (name, found.lineno))

    def test_keywords(self):
        allowed = {"sorted": {"key", "reverse"}, "min": {"key", "default"}, "max": {"key", "default"}, "sum": {"start"},
                   "enumerate": {"start"}, "zip": {"strict"}}
        for name, found in walked(ast.Call):
            named = {keyword.arg for keyword in found.keywords}
            self.assertLessEqual(named, allowed.get(called(found), set()), (name, found.lineno))

    def test_no_rest_sign_within_a_text(self):
        for name, found in walked(ast.Constant):
            if isinstance(found.value, str):
                self.assertNotIn(chr(37), found.value, (name, found.lineno))

    def test_pythons_own_are_called_and_not_kept(self):
        for name, parent, found in walked_with_parents(ast.Name):
            if found.id in ("len", "range", "min", "max", "sum", "any", "all", "sorted", "set", "list", "enumerate"):
                self.assertTrue(isinstance(parent, ast.Call) and parent.func is found, (name, found.lineno))
