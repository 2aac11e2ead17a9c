"""What can be seen of the program's form without running it: files, signs, sizes, imports, statements, names."""

import ast
import builtins
import pathlib
import re
import unittest

PACKAGE = pathlib.Path(__file__).resolve().parent.parent / "planestimates"

NODES = set("""
    Module Import ImportFrom alias FunctionDef ClassDef arguments arg Expr Assign AugAssign If While For Return
    Break Continue Pass Raise Try ExceptHandler BinOp UnaryOp BoolOp Compare IfExp Call keyword Attribute
    Subscript Slice Name Constant List Tuple Dict ListComp comprehension Lambda JoinedStr FormattedValue Load
    Store Add Sub Mult FloorDiv Mod Pow BitOr BitAnd BitXor LShift RShift Invert USub Not And Or Eq NotEq Lt LtE
    Gt GtE Is IsNot In NotIn
""".split())
OWN_NAMES_OF_PYTHON = set("""
    len range enumerate zip min max sum abs sorted reversed int str bool list tuple dict set frozenset isinstance
    ord repr any all divmod Exception ValueError TypeError KeyError IndexError LookupError ZeroDivisionError
    ArithmeticError OverflowError RuntimeError NotImplementedError AttributeError StopIteration
""".split())
OWN_METHODS_OF_PYTHON = set("""
    append clear copy count endswith extend find get index insert isalnum isalpha isdigit islower isspace isupper
    items join keys ljust lower lstrip partition pop remove replace reverse rfind rjust rpartition rsplit rstrip
    setdefault split splitlines startswith strip update upper values zfill bit_length
""".split())
WORDS_THAT_STAND_NOWHERE = re.compile(r"""
    \b(type|typing|typing_extensions|enum|Enum|IntEnum|StrEnum|Flag|IntFlag|Generic|Protocol|ABC|ABCMeta|namedtuple
    |NamedTuple|TypedDict|TYPE_CHECKING|abstractmethod)\b|dataclass|overload|contextmanager
""", re.VERBOSE)


def sources():
    return [(path.name, path.read_text("ascii")) for path in sorted(PACKAGE.glob("*.py"))]


def nodes():
    return [(name, node) for name, text in sources() for node in ast.walk(ast.parse(text))]


class Language(unittest.TestCase):
    def test_nothing_but_python_files(self):
        found = [path.name for path in PACKAGE.iterdir() if path.name != "__pycache__"]
        self.assertEqual([name for name in found if not re.fullmatch(r"[a-z0-9_]+\.py", name)], [])
        self.assertIn("__init__.py", found)

    def test_signs_and_sizes(self):
        for name, text in sources():
            rows = text.split("\n")
            self.assertLessEqual(len(rows), 400, name)
            for row in rows:
                self.assertRegex(row, r"\A[ -~]{0,120}\Z", name)
            self.assertIsNone(WORDS_THAT_STAND_NOWHERE.search(text), name)

    def test_functions_are_small_and_plain(self):
        for name, node in nodes():
            if isinstance(node, ast.FunctionDef):
                self.assertLessEqual(node.end_lineno - node.lineno + 1, 40, (name, node.name))
                self.assertEqual(node.decorator_list, [])
                self.assertIsNone(node.args.vararg or node.args.kwarg)
                self.assertEqual(node.args.kwonlyargs, [])

    def test_statements_and_expressions(self):
        for name, node in nodes():
            self.assertIn(node.__class__.__name__, NODES, name)
            if isinstance(node, ast.Assign):
                self.assertEqual(len(node.targets), 1, (name, node.lineno))
            if isinstance(node, (ast.For, ast.While)):
                self.assertEqual(node.orelse, [], (name, node.lineno))
            if isinstance(node, ast.Constant):
                self.assertIsInstance(node.value, (int, str, bool, type(None)), (name, node.lineno))

    def test_imports_are_the_packages_own(self):
        for name, node in nodes():
            self.assertNotIsInstance(node, ast.Import, name)
            if isinstance(node, ast.ImportFrom):
                self.assertEqual(node.level, 0, name)
                self.assertTrue(node.module.startswith("planestimates."), (name, node.module))
                self.assertNotIn("*", [each.name for each in node.names], name)

    def test_names(self):
        out = set(dir(builtins)) - OWN_NAMES_OF_PYTHON
        for name, node in nodes():
            if isinstance(node, ast.Name):
                self.assertNotIn(node.id, out, (name, node.lineno))
                self.assertFalse(node.id.startswith("_"), (name, node.lineno))
                if isinstance(node.ctx, ast.Store):
                    self.assertNotIn(node.id, dir(builtins), (name, node.lineno))
            if isinstance(node, ast.arg):
                self.assertNotIn(node.arg, dir(builtins), (name, node.lineno))

    def test_methods(self):
        own = {node.name for _, node in nodes() if isinstance(node, ast.FunctionDef)}
        kept = {node.attr for _, node in nodes() if isinstance(node, ast.Attribute) and isinstance(node.ctx, ast.Store)}
        for name, node in nodes():
            if isinstance(node, ast.Attribute):
                self.assertIn(node.attr, own | kept | OWN_METHODS_OF_PYTHON, (name, node.lineno))
        self.assertEqual(own & kept, set())


if __name__ == "__main__":
    unittest.main()
