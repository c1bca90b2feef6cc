"""The package's own files keep to the part of Python that they are written in, as far as a walk can see."""

import ast
import builtins
import os
import re
import unittest

PACKAGE = os.path.join(os.path.dirname(os.path.dirname(os.path.abspath(__file__))), "rollcut")

NODES = set("""
Module Expr FunctionDef ClassDef arguments arg Return Assign AugAssign For While If Raise Try ExceptHandler Pass Break
Continue ImportFrom alias Call Name Attribute Subscript Slice Constant List Tuple Dict ListComp comprehension IfExp
BoolOp BinOp UnaryOp Compare JoinedStr FormattedValue Lambda Load Store keyword And Or Not USub Invert Add Sub Mult
FloorDiv Mod Pow LShift RShift BitAnd BitOr BitXor Eq NotEq Lt LtE Gt GtE Is IsNot In NotIn
""".split())

OWN_NAMES = set("""
len range enumerate zip min max sum abs sorted reversed int str bool list tuple dict set frozenset isinstance ord repr
any all divmod Exception ValueError TypeError KeyError IndexError LookupError ZeroDivisionError ArithmeticError
OverflowError RuntimeError NotImplementedError StopIteration
""".split())

OUT_WORDS = set("""
type typing typing_extensions enum Enum IntEnum StrEnum Flag IntFlag Generic Protocol ABC ABCMeta namedtuple NamedTuple
TypedDict TYPE_CHECKING abstractmethod
""".split())


def sources():
    found = {}
    for name in sorted(os.listdir(PACKAGE)):
        if name != "__pycache__":
            with open(os.path.join(PACKAGE, name), encoding="utf-8") as file:
                found[name] = file.read()
    return found


class Language(unittest.TestCase):
    def walked(self):
        for name, source in sources().items():
            for node in ast.walk(ast.parse(source)):
                yield "%s:%s" % (name, getattr(node, "lineno", 0)), node

    def test_files(self):
        self.assertIn("__init__.py", sources())
        for name in sources():
            self.assertRegex(name, r"^(__init__|[a-z][a-z0-9_]*)\.py$")

    def test_signs_and_sizes(self):
        for name, source in sources().items():
            lines = source.split("\n")
            self.assertLessEqual(len(lines), 400, name)
            for line in lines:
                self.assertRegex(line, r"^[ -~]{0,120}$", name)
            for word in re.findall(r"\w+", source):
                self.assertNotIn(word, OUT_WORDS, name)
                self.assertNotRegex(word, "dataclass|overload|contextmanager", name)

    def test_forms(self):
        for place, node in self.walked():
            self.assertIn(node.__class__.__name__, NODES, place)
            if isinstance(node, ast.Constant):
                self.assertIn(node.value.__class__, (int, str, bool, None.__class__), place)
            if isinstance(node, ast.Assign):
                self.assertEqual(len(node.targets), 1, place)
            if isinstance(node, (ast.For, ast.While)):
                self.assertEqual(node.orelse, [], place)
            if isinstance(node, ast.Try):
                self.assertEqual(node.finalbody, [], place)

    def test_functions(self):
        for place, node in self.walked():
            if isinstance(node, ast.FunctionDef):
                self.assertLessEqual(node.end_lineno - node.lineno + 1, 40, place)
                self.assertEqual(node.decorator_list, [], place)
                self.assertIsNone(node.args.vararg or node.args.kwarg, place)
            if isinstance(node, ast.arg):
                self.assertIsNone(node.annotation, place)

    def test_names(self):
        out = set(dir(builtins))
        for place, node in self.walked():
            if isinstance(node, ast.Name) and isinstance(node.ctx, ast.Load):
                self.assertTrue(node.id in OWN_NAMES or node.id not in out, place)
            if isinstance(node, ast.Name) and isinstance(node.ctx, ast.Store):
                self.assertRegex(node.id, "^[A-Za-z]", place)
                self.assertNotIn(node.id, out, place)
            if isinstance(node, ast.arg):
                self.assertNotIn(node.arg, out, place)

    def test_imports(self):
        for place, node in self.walked():
            if isinstance(node, ast.ImportFrom):
                self.assertEqual(node.level, 0, place)
                self.assertRegex(node.module, r"^rollcut\.[a-z_]+$", place)


if __name__ == "__main__":
    unittest.main()
