"""The package keeps to its small part of Python: what of the rules a walk through its files can see."""

import ast
import pathlib
import unittest

PACKAGE = pathlib.Path(__file__).resolve().parent.parent / "wordgaps"
FILES = sorted(PACKAGE.glob("*.py"))
NODES = """Module Expr FunctionDef ClassDef arguments arg Return Assign AugAssign If While For Break Continue Pass Raise Try
ExceptHandler Import ImportFrom alias Name Load Store Constant List Tuple Dict Set Attribute Subscript Slice Call
keyword Lambda BinOp UnaryOp BoolOp Compare IfExp ListComp comprehension JoinedStr FormattedValue Add Sub Mult FloorDiv
Mod Pow BitAnd BitOr BitXor LShift RShift Invert Not USub And Or Eq NotEq Lt LtE Gt GtE In NotIn Is IsNot""".split()
BUILTINS = """len range enumerate zip min max sum abs sorted reversed int str bool list tuple dict set frozenset isinstance
ord repr any all divmod Exception ValueError TypeError KeyError IndexError LookupError ZeroDivisionError
ArithmeticError OverflowError RuntimeError NotImplementedError AttributeError StopIteration""".split()
METHODS = """append clear copy count endswith extend find get index insert isalnum isalpha isdigit islower isspace isupper
items join keys ljust lower lstrip partition pop remove replace reverse rfind rjust rpartition rsplit rstrip setdefault
split splitlines startswith strip update upper values zfill bit_length""".split()
WALKED = "zip enumerate reversed range items keys values".split()
TAKERS = "list tuple dict sorted sum any all enumerate zip".split()
NOT_USED = """register mro elements open input version_info with_traceback add_note attrgetter breakpoint builtins compile
copyright credits delattr dir eval exec exit gc getattr globals hasattr help id importlib license locals methodcaller os
quit setattr super type vars sys typing enum""".split()


def bound_names(tree):
    """The names of defs, classes, parameters, imports and what is given a value."""
    found = []
    for node in ast.walk(tree):
        if isinstance(node, (ast.FunctionDef, ast.ClassDef)):
            found.append(node.name)
        elif isinstance(node, ast.arg):
            found.append(node.arg)
        elif isinstance(node, ast.alias):
            found.append(node.name)
        elif isinstance(node, ast.ExceptHandler) and node.name:
            found.append(node.name)
        elif isinstance(node, ast.Name) and isinstance(node.ctx, ast.Store):
            found.append(node.id)
    return found


def read_files():
    return [(file.name, file.read_text(encoding="utf-8"), ast.parse(file.read_text(encoding="utf-8"))) for file in FILES]


class Language(unittest.TestCase):
    def setUp(self):
        self.files = read_files()

    def test_files(self):
        self.assertIn(PACKAGE / "gaps.py", FILES)
        rest = [path.name for path in PACKAGE.iterdir() if path not in FILES and path.name != "__pycache__"]
        self.assertEqual(rest, [])
        for file, text, tree in self.files:
            self.assertIsNotNone(ast.get_docstring(tree), file)
            self.assertRegex(text, r"\A[ -~\n]*\Z", file)
            self.assertLess(text.count("\n"), 400, file)
            self.assertLessEqual(max(map(len, text.split("\n"))), 120, file)

    def test_sizes_and_forms(self):
        for file, text, tree in self.files:
            for node in ast.walk(tree):
                self.assertIn(type(node).__name__, NODES, (file, getattr(node, "lineno", None)))
                if isinstance(node, ast.FunctionDef):
                    self.assertLessEqual(node.end_lineno - node.lineno + 1, 40, node.name)
                    self.assertEqual(node.decorator_list, [])
                if isinstance(node, ast.Assign):
                    self.assertEqual(len(node.targets), 1, (file, node.lineno))
                if isinstance(node, ast.ListComp):
                    self.assertEqual(len(node.generators), 1, (file, node.lineno))
                if isinstance(node, (ast.For, ast.While)):
                    self.assertEqual(node.orelse, [], (file, node.lineno))

    def test_imports(self):
        for file, text, tree in self.files:
            for node in ast.walk(tree):
                self.assertNotIsInstance(node, ast.Import, file)
                if isinstance(node, ast.ImportFrom):
                    self.assertIn(node, tree.body, file)
                    self.assertTrue((PACKAGE.parent / (node.module.replace(".", "/") + ".py")).is_file(), file)

    def test_walked_at_once(self):
        for file, text, tree in self.files:
            allowed = []
            for node in ast.walk(tree):
                if isinstance(node, (ast.For, ast.comprehension)):
                    allowed.append(node.iter)
                elif isinstance(node, ast.Call) and isinstance(node.func, ast.Name) and node.func.id in TAKERS:
                    allowed.extend(node.args[:1])
            for node in ast.walk(tree):
                if isinstance(node, ast.Call):
                    name = node.func.id if isinstance(node.func, ast.Name) else node.func.attr
                    if name in WALKED:
                        self.assertIn(node, allowed, (file, node.lineno))

    def test_sets_are_not_kept(self):
        for file, text, tree in self.files:
            allowed = []
            for node in ast.walk(tree):
                if isinstance(node, ast.Call) and isinstance(node.func, ast.Name) and node.func.id in ("sorted", "len"):
                    allowed.extend(node.args)
                elif isinstance(node, ast.Compare):
                    allowed.extend(node.comparators)
            for node in ast.walk(tree):
                if isinstance(node, ast.Set) or isinstance(node, ast.Call) and isinstance(node.func, ast.Name) \
                        and node.func.id in ("set", "frozenset"):
                    self.assertIn(node, allowed, (file, node.lineno))

    def test_names(self):
        own = [node.name for file, text, tree in self.files for node in ast.walk(tree)
               if isinstance(node, ast.FunctionDef)]
        for file, text, tree in self.files:
            names = bound_names(tree)
            for name in names:
                self.assertRegex(name, r"\A([A-Za-z][A-Za-z0-9_]*|__init__)\Z", file)
                self.assertNotIn(name, BUILTINS + NOT_USED, file)
            for node in ast.walk(tree):
                if isinstance(node, ast.Name):
                    self.assertIn(node.id, names + BUILTINS, file)
                if isinstance(node, ast.Call) and isinstance(node.func, ast.Attribute):
                    self.assertIn(node.func.attr, METHODS + own, file)


if __name__ == "__main__":
    unittest.main()
