"""The package keeps to its part of Python, as far as a short look at the files can tell."""

import ast
import builtins
import pathlib
import re
import unittest

PACKAGE = pathlib.Path(__file__).resolve().parent.parent / "shortmark"

NODES = set("""Module Expr Constant Name Load Store Assign AugAssign If While For Return Break Continue Pass Raise Try
ExceptHandler Call keyword Attribute Subscript Slice List Tuple Dict ListComp comprehension JoinedStr FormattedValue
BinOp UnaryOp BoolOp Compare IfExp FunctionDef ClassDef arguments arg Lambda ImportFrom alias Add Sub Mult FloorDiv Mod
Pow BitAnd BitOr BitXor LShift RShift Invert USub And Or Not Eq NotEq Lt LtE Gt GtE Is IsNot In NotIn""".split())
OWN_NAMES = set("""len range enumerate zip min max sum abs sorted reversed int str bool list tuple dict isinstance ord
repr any all divmod Exception ValueError KeyError IndexError LookupError ZeroDivisionError""".split())
METHODS = set("""append clear copy count endswith extend find get index insert items join keys lower lstrip pop remove
replace reverse split startswith strip update upper values""".split())
WORDS = re.compile(r"\b(type|typing|enum|Enum|Flag|Generic|Protocol|ABC)\b|dataclass|overload|contextmanager")
DOUBLE = {"__init__"}


def sources():
    return sorted(PACKAGE.glob("**/*.py"))


def trees():
    return [(path.name, ast.parse(path.read_text())) for path in sources()]


def walk(*kinds):
    return [(name, node) for name, tree in trees() for node in ast.walk(tree) if isinstance(node, kinds)]


class Language(unittest.TestCase):

    def test_files(self):
        for path in PACKAGE.iterdir():
            if path.name != "__pycache__":
                self.assertRegex(path.name, r"^(__init__|[a-z][a-z0-9_]*)\.py$")
        self.assertIn("desk.py", [path.name for path in sources()])

    def test_rows_and_signs(self):
        for path in sources():
            text = path.read_text()
            self.assertLessEqual(len(text.splitlines()), 399, path)
            self.assertIsNone(re.search(r"[^ -~\n]", text), path)
            self.assertIsNone(WORDS.search(text), path)
            self.assertLessEqual(max(map(len, text.splitlines())), 120, path)

    def test_functions(self):
        for name, node in walk(ast.FunctionDef):
            where = (name, node.name)
            self.assertLessEqual(node.end_lineno - node.lineno + 1, 40, where)
            self.assertEqual(node.decorator_list, [], where)
            self.assertIsNone(node.args.vararg or node.args.kwarg, where)
            self.assertEqual(node.args.kwonlyargs, [], where)
            self.assertTrue(node.name in DOUBLE or not node.name.startswith("_"), where)

    def test_expressions(self):
        for name, node in walk(ast.AST):
            self.assertIn(node.__class__.__name__, NODES, (name, getattr(node, "lineno", 0)))

    def test_constants(self):
        for name, node in walk(ast.Constant):
            self.assertIn(node.value.__class__, (int, str, bool, None.__class__), (name, node.lineno))

    def test_assignments(self):
        for name, node in walk(ast.Assign):
            self.assertEqual(len(node.targets), 1, (name, node.lineno))

    def test_imports(self):
        tops = {name: {node.name for node in tree.body if isinstance(node, (ast.FunctionDef, ast.ClassDef))}
                | {node.targets[0].id for node in tree.body if isinstance(node, ast.Assign)} for name, tree in trees()}
        for name, node in walk(ast.ImportFrom):
            package, module = node.module.split(".")
            self.assertEqual((package, node.level), ("shortmark", 0), name)
            for alias in node.names:
                self.assertIn(alias.name, tops[module + ".py"], name)
                self.assertIsNone(alias.asname, name)

    def test_imports_make_no_ring(self):
        drawn = {}
        for name, node in walk(ast.ImportFrom):
            drawn.setdefault(name, set()).add(node.module.split(".")[1] + ".py")
        left = {name for name, tree in trees()}
        while left:
            free = {name for name in left if not drawn.get(name, set()) & left}
            self.assertTrue(free, left)
            left -= free

    def test_names_of_pythons_own(self):
        own = set(dir(builtins))
        for name, node in walk(ast.Name):
            if node.id in own:
                self.assertIn(node.id, OWN_NAMES, (name, node.lineno))
                self.assertIsInstance(node.ctx, ast.Load, (name, node.lineno))
        for name, node in walk(ast.arg):
            self.assertNotIn(node.arg, own, (name, node.lineno))

    def test_methods(self):
        ours = {node.name for name, node in walk(ast.FunctionDef)}
        for name, node in walk(ast.Call):
            if isinstance(node.func, ast.Attribute):
                self.assertIn(node.func.attr, METHODS | ours, (name, node.lineno))

    def test_lists_at_a_files_top_are_not_handed_on(self):
        for name, tree in trees():
            tables = {node.targets[0].id for node in tree.body if isinstance(node, ast.Assign)
                      and isinstance(node.value, (ast.Tuple, ast.List, ast.Dict))}
            for node in ast.walk(tree):
                if isinstance(node, ast.Call) and getattr(node.func, "id", "") not in ("list", "dict", "tuple", "len"):
                    for value in node.args:
                        self.assertNotIn(getattr(value, "id", ""), tables, (name, node.lineno))


if __name__ == "__main__":
    unittest.main()
