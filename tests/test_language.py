"""That the package keeps to the small part of the language; the numbers are those of its rules."""

import ast
import pathlib
import re
import unittest

PACKAGE = pathlib.Path(__file__).resolve().parent.parent / "ferryways"
STATEMENTS = (
    ast.Assign, ast.AugAssign, ast.AnnAssign, ast.If, ast.While, ast.For, ast.Return, ast.Break, ast.Continue,
    ast.Pass, ast.Raise, ast.Try, ast.Expr, ast.FunctionDef, ast.ClassDef,
)
NOT_USED = (
    ast.SetComp, ast.DictComp, ast.GeneratorExp, ast.NamedExpr, ast.Starred, ast.Div, ast.Await, ast.Yield,
    ast.YieldFrom, ast.MatMult,
)
OWN_NAMES = set(
    "len range enumerate zip min max sum abs sorted reversed int str bool list tuple dict set frozenset isinstance ord "
    "repr any all divmod KeyError ZeroDivisionError StopIteration ValueError IndexError LookupError Exception".split()
)
OWN_METHODS = set(
    "append clear copy count endswith extend find get index insert items join keys pop remove replace reverse "
    "setdefault split startswith strip update values bit_length".split()
)
NOT_NAMED = set(
    "register mro elements open input version_info with_traceback add_note attrgetter breakpoint builtins compile "
    "copyright credits delattr dir eval exec exit gc getattr globals hasattr help id importlib license locals "
    "methodcaller os quit setattr super type vars sys format format_map sort args encode".split()
)
WORDS = re.compile(
    r"\b(type|typing|typing_extensions|enum|Enum|Flag|Generic|Protocol|ABC|namedtuple|NamedTuple|TypedDict)\b"
    r"|dataclass|overload|contextmanager"
)


def bound_names(tree):
    names = set()
    for node in ast.walk(tree):
        if isinstance(node, (ast.FunctionDef, ast.ClassDef)):
            names.add(node.name)
        elif isinstance(node, ast.arg):
            names.add(node.arg)
        elif isinstance(node, ast.Name) and isinstance(node.ctx, ast.Store):
            names.add(node.id)
        elif isinstance(node, ast.alias):
            names.add(node.asname or node.name)
    return names


class Language(unittest.TestCase):
    def files(self):
        paths = sorted(path for path in PACKAGE.rglob("*") if "__pycache__" not in path.parts)
        self.assertIn(PACKAGE / "net.py", paths)
        for path in paths:
            text = path.read_bytes().decode("ascii")
            yield path, text, ast.parse(text)

    def test_files_and_signs(self):
        for path, text, tree in self.files():
            self.assertRegex(path.name, r"^[a-z0-9_]+\.py$", "L1, L14")
            self.assertRegex(text, r"\A[ -~\n]*\Z", "L14")
            self.assertLessEqual(len(text.splitlines()), 400, "L10")
            self.assertLessEqual(max(len(line) for line in text.splitlines()), 120, "L10")
            self.assertIsNone(WORDS.search(text), "L17")

    def test_forms(self):
        for path, text, tree in self.files():
            for node in ast.walk(tree):
                where = f"line {getattr(node, 'lineno', 0)}"
                if isinstance(node, ast.stmt):
                    self.assertIsInstance(node, STATEMENTS, f"L6, {where}")
                self.assertNotIsInstance(node, NOT_USED, f"L7, {where}")
                if isinstance(node, ast.Constant):
                    self.assertNotIsInstance(node.value, (float, bytes, complex), f"L7, {where}")
                if isinstance(node, ast.Assign):
                    self.assertEqual(len(node.targets), 1, f"L6, {where}")
                if isinstance(node, (ast.For, ast.While)):
                    self.assertEqual(node.orelse, [], f"L6, {where}")
                if isinstance(node, ast.FunctionDef):
                    self.assertLessEqual(node.end_lineno - node.lineno + 1, 40, f"L10, {where}")
                if isinstance(node, (ast.FunctionDef, ast.ClassDef)):
                    self.assertEqual(node.decorator_list, [], f"L4, L5, {where}")

    def test_names(self):
        for path, text, tree in self.files():
            bound = bound_names(tree)
            self.assertEqual(sorted(bound & OWN_NAMES), [], "L8, L15")
            self.assertEqual(sorted(name for name in bound if name.startswith("_") and name != "__init__"), [], "L12")
            for node in ast.walk(tree):
                if isinstance(node, ast.Name) and isinstance(node.ctx, ast.Load):
                    self.assertIn(node.id, bound | OWN_NAMES, f"L8, line {node.lineno}")

    def test_methods_and_values(self):
        for path, text, tree in self.files():
            given = {
                node.attr for node in ast.walk(tree)
                if isinstance(node, ast.Attribute) and isinstance(node.ctx, ast.Store)
            }
            for node in ast.walk(tree):
                if isinstance(node, ast.Attribute) and isinstance(node.ctx, ast.Load):
                    self.assertIn(node.attr, bound_names(tree) | given | OWN_METHODS, f"L25, line {node.lineno}")

    def test_imports_nothing(self):
        for path, text, tree in self.files():
            for node in ast.walk(tree):
                self.assertNotIsInstance(node, (ast.Import, ast.ImportFrom), "the interface, of what it imports")

    def test_functions_have_plain_parameters(self):
        for path, text, tree in self.files():
            for node in ast.walk(tree):
                if isinstance(node, ast.arguments):
                    self.assertEqual([node.vararg, node.kwarg], [None, None], "L4")
                    self.assertEqual(node.kwonlyargs + node.posonlyargs, [], "L4")

    def test_expressions(self):
        for path, text, tree in self.files():
            for node in ast.walk(tree):
                where = f"line {getattr(node, 'lineno', 0)}"
                if isinstance(node, ast.ListComp):
                    self.assertEqual(len(node.generators), 1, f"L7, {where}")
                    self.assertLessEqual(len(node.generators[0].ifs), 1, f"L7, {where}")
                if isinstance(node, ast.Compare) and any(isinstance(op, (ast.Is, ast.IsNot)) for op in node.ops):
                    self.assertIsInstance(node.comparators[0], ast.Constant, f"L20, {where}")
                self.assertNotIsInstance(node, (ast.Pow, ast.Set), f"L24, L27, {where}")
                if isinstance(node, ast.Constant) and isinstance(node.value, str):
                    self.assertNotIn("%", node.value, f"L27, {where}")

    def test_names_not_used(self):
        for path, text, tree in self.files():
            used = bound_names(tree) | {node.id for node in ast.walk(tree) if isinstance(node, ast.Name)}
            used |= {node.attr for node in ast.walk(tree) if isinstance(node, ast.Attribute)}
            self.assertEqual(sorted(used & NOT_NAMED), [], "L17, L26")

    def test_no_name_is_a_method_and_a_value(self):
        methods = set()
        values = set()
        for path, text, tree in self.files():
            for node in ast.walk(tree):
                if isinstance(node, ast.ClassDef):
                    names = [part.name for part in node.body if isinstance(part, ast.FunctionDef)]
                    self.assertEqual(len(names), len(set(names)), "L18")
                    methods |= set(names)
                if isinstance(node, ast.Attribute) and isinstance(node.ctx, ast.Store):
                    values.add(node.attr)
        self.assertEqual(sorted(methods & values), [], "L18")

    def test_walked_at_once(self):
        """The walks that are not kept stand behind a for's in, or first in a call that walks them."""
        for path, text, tree in self.files():
            walks = [
                node for node in ast.walk(tree)
                if isinstance(node, ast.Call) and isinstance(node.func, ast.Name)
                and node.func.id in ("zip", "enumerate", "reversed", "range")
            ]
            places = []
            for node in ast.walk(tree):
                if isinstance(node, (ast.For, ast.comprehension)):
                    places.append(node.iter)
                if isinstance(node, ast.Call) and isinstance(node.func, ast.Name) and node.args:
                    places.append(node.args[0])
            for node in walks:
                self.assertIn(node, places, f"L23, line {node.lineno}")


if __name__ == "__main__":
    unittest.main()
