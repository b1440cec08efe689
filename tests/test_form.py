"""The form of the package's files, as far as it can be told by a look at them."""

import ast
import builtins
import pathlib
import re
import unittest

PACKAGE = pathlib.Path(__file__).resolve().parent.parent / "withinany"
FILES = sorted(PACKAGE.glob("*.py"))

NODES = (
    "Module Expr Constant ImportFrom alias FunctionDef arguments arg ClassDef Assign AugAssign If While For Return "
    "Break Continue Pass Raise Try ExceptHandler Call Attribute Subscript Slice Name Load Store List Tuple Dict "
    "ListComp comprehension BinOp UnaryOp BoolOp Compare IfExp And Or Not Add Sub Mult FloorDiv Mod BitAnd BitOr "
    "BitXor Invert LShift RShift USub Eq NotEq Lt LtE Gt GtE Is IsNot In NotIn keyword Lambda"
).split()
NAMES = (
    "len range enumerate zip min max sum abs sorted reversed int str bool list tuple dict isinstance ord repr any all "
    "divmod Exception ValueError KeyError"
).split()
METHODS = (
    "append clear copy count endswith extend find get index insert items join keys pop remove replace reverse "
    "setdefault split startswith strip update values bit_length"
).split()
WORDS = (
    "type typing typing_extensions enum Enum IntEnum StrEnum Flag IntFlag Generic Protocol ABC ABCMeta namedtuple "
    "NamedTuple TypedDict TYPE_CHECKING abstractmethod"
).split()
PYTHONS_OWN = dir(builtins)


class Form(unittest.TestCase):
    def each_tree(self):
        for path in FILES:
            yield path.name, ast.parse(path.read_text(encoding="utf-8"))

    def test_only_plain_files_lie_in_the_package(self):
        names = [path.name for path in PACKAGE.iterdir() if path.name != "__pycache__"]
        self.assertIn("__init__.py", names)
        for name in names:
            self.assertRegex(name, r"^([a-z][a-z0-9_]*|__init__)\.py$")

    def test_rows_and_signs(self):
        for path in FILES:
            text = path.read_text(encoding="utf-8")
            self.assertLessEqual(len(text.splitlines()), 400, path.name)
            self.assertLessEqual(max(len(line) for line in text.splitlines()), 120, path.name)
            self.assertEqual(re.findall(r"[^ -~\n]", text), [], path.name)
            self.assertEqual(set(re.findall(r"\w+", text)) & set(WORDS), set(), path.name)

    def test_only_these_forms_are_used(self):
        for name, tree in self.each_tree():
            for node in ast.walk(tree):
                self.assertIn(node.__class__.__name__, NODES, (name, getattr(node, "lineno", 0)))

    def test_functions_are_short_and_plain(self):
        for name, tree in self.each_tree():
            for node in ast.walk(tree):
                if isinstance(node, ast.FunctionDef):
                    self.assertLessEqual(node.end_lineno - node.lineno + 1, 40, (name, node.name))
                    self.assertEqual(node.decorator_list, [])
                    self.assertIsNone(node.args.vararg or node.args.kwarg or node.returns)

    def test_only_the_package_itself_is_imported(self):
        for name, tree in self.each_tree():
            for node in ast.walk(tree):
                if isinstance(node, ast.ImportFrom):
                    self.assertTrue(node.module.startswith("withinany.") and node.level == 0, name)

    def test_names_of_pythons_own(self):
        for name, tree in self.each_tree():
            for node in ast.walk(tree):
                if isinstance(node, ast.Name) and isinstance(node.ctx, ast.Load) and node.id in PYTHONS_OWN:
                    self.assertIn(node.id, NAMES, (name, node.lineno))
                bound = node.id if isinstance(node, ast.Name) and isinstance(node.ctx, ast.Store) else None
                bound = node.arg if isinstance(node, ast.arg) else bound
                self.assertNotIn(bound, PYTHONS_OWN, name)

    def test_methods(self):
        own = [node.name for _, tree in self.each_tree() for node in ast.walk(tree)
               if isinstance(node, ast.FunctionDef)]
        for name, tree in self.each_tree():
            for node in ast.walk(tree):
                if isinstance(node, ast.Call) and isinstance(node.func, ast.Attribute):
                    self.assertIn(node.func.attr, METHODS + own, (name, node.lineno))


if __name__ == "__main__":
    unittest.main()
