"""What can be seen at a glance of the part of Python that the package keeps to."""

import ast
import builtins
import pathlib
import re
import unittest

import tornleaves

FOLDER = pathlib.Path(tornleaves.__file__).parent

BUILT_INS = set(
    "len range enumerate zip min max sum abs sorted reversed int str bool list tuple dict set frozenset"
    " isinstance ord repr any all divmod Exception ValueError TypeError KeyError IndexError LookupError"
    " ZeroDivisionError ArithmeticError OverflowError RuntimeError NotImplementedError AttributeError"
    " StopIteration".split()
)
OWN_DOUBLE = set("__init__ __eq__ __repr__ __str__ __len__".split())
METHODS = set(
    "append clear copy count endswith extend find get index insert isalnum isalpha isdigit islower isspace"
    " isupper items join keys ljust lower lstrip partition pop remove replace reverse rfind rjust rpartition"
    " rsplit rstrip setdefault split splitlines startswith strip update upper values zfill bit_length".split()
)
PYTHONS_KINDS = (str, int, list, dict, set, bytes, tuple)
UNUSED_NODES = (
    ast.Import, ast.ImportFrom, ast.With, ast.Match, ast.Delete, ast.Global, ast.Nonlocal, ast.Assert,
    ast.Yield, ast.YieldFrom, ast.Await, ast.AsyncFunctionDef, ast.AsyncFor, ast.AsyncWith, ast.Starred,
    ast.Div, ast.Pow, ast.SetComp, ast.DictComp, ast.GeneratorExp, ast.NamedExpr, ast.AnnAssign, ast.Set,
    ast.Is, ast.IsNot, ast.Try,
)
UNUSED_WORDS = re.compile(
    r"\b(type|typing|typing_extensions|enum|Enum|IntEnum|StrEnum|Flag|IntFlag|Generic|Protocol|ABC|ABCMeta"
    r"|namedtuple|NamedTuple|TypedDict|TYPE_CHECKING|abstractmethod)\b|dataclass|overload|contextmanager"
)


def package_files():
    return sorted(FOLDER.rglob("*.py"))


def nodes():
    for file in package_files():
        for node in ast.walk(ast.parse(file.read_text(encoding="utf-8"))):
            yield f"{file.name}:{getattr(node, 'lineno', 0)}", node


class FilesTest(unittest.TestCase):
    def test_nothing_but_plain_python_files(self):
        for file in FOLDER.iterdir():
            if file.name != "__pycache__":
                self.assertRegex(file.name, r"^(__init__|[a-z][a-z0-9_]*)\.py$")

    def test_size_and_signs(self):
        for file in package_files():
            text = file.read_bytes().decode("ascii")
            self.assertRegex(text, r"\A[ -~\n]*\Z", file.name)
            self.assertIsNone(UNUSED_WORDS.search(text), file.name)
            self.assertLessEqual(len(text.splitlines()), 400, file.name)
            for line in text.splitlines():
                self.assertLessEqual(len(line), 120, line)


class NodesTest(unittest.TestCase):
    def test_statements_and_expressions(self):
        for place, node in nodes():
            self.assertNotIsInstance(node, UNUSED_NODES, place)
            if isinstance(node, (ast.For, ast.While)):
                self.assertEqual(node.orelse, [], place)
            if isinstance(node, ast.Assign):
                self.assertEqual(len(node.targets), 1, place)
            if isinstance(node, ast.Constant):
                self.assertIn(type(node.value), (int, str, bool, type(None)), place)
                self.assertNotIn("%", str(node.value), place)
            if isinstance(node, ast.ListComp):
                self.assertEqual(len(node.generators), 1, place)

    def test_functions(self):
        for place, node in nodes():
            if isinstance(node, ast.FunctionDef):
                self.assertLessEqual(node.end_lineno - node.lineno + 1, 40, place)
                self.assertEqual(node.decorator_list, [], place)
                self.assertIsNone(node.args.vararg, place)
                self.assertIsNone(node.args.kwarg, place)
                self.assertEqual(node.args.kwonlyargs, [], place)

    def test_names(self):
        for place, node in nodes():
            for name in self.bound_names(node):
                if name not in OWN_DOUBLE:
                    self.assertRegex(name, r"^[A-Za-z][A-Za-z0-9_]*$", place)
                    self.assertFalse(hasattr(builtins, name), f"{place} {name}")
            if isinstance(node, ast.Name) and hasattr(builtins, node.id):
                self.assertIn(node.id, BUILT_INS, place)
            if isinstance(node, ast.Attribute) and node.attr not in METHODS:
                for kind in PYTHONS_KINDS:
                    self.assertFalse(hasattr(kind, node.attr), f"{place} {node.attr}")

    def bound_names(self, node):
        if isinstance(node, (ast.FunctionDef, ast.ClassDef)):
            return [node.name]
        if isinstance(node, ast.arg):
            return [node.arg]
        if isinstance(node, ast.Name) and isinstance(node.ctx, ast.Store):
            return [node.id]
        return []


if __name__ == "__main__":
    unittest.main()
