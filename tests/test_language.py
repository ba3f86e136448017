"""Tests that the files of the package keep to the subset of ../shared/LANGUAGE.md, as far as this is quick to see."""

import ast
import builtins
import re
import unittest
from pathlib import Path

ROOT = Path(__file__).resolve().parent.parent
PACKAGE = ROOT / "greedycuts"
FILES = sorted(path for path in PACKAGE.rglob("*") if path.suffix != ".pyc" and path.name != "__pycache__")
LIBRARY = {
    "heapq": "heappush heappop heapify heapreplace heappushpop", "math": "gcd lcm isqrt comb perm factorial",
    "itertools": "product combinations permutations chain accumulate pairwise islice zip_longest",
    "collections": "defaultdict",
}
USABLE = set(
    "len range enumerate zip min max sum abs sorted reversed int str bool list tuple dict set isinstance ord repr"
    " any all divmod pow iter next map super property staticmethod classmethod object"
    " Exception ValueError TypeError KeyError IndexError LookupError ZeroDivisionError ArithmeticError OverflowError"
    " RuntimeError NotImplementedError StopIteration NotImplemented".split()
)
METHODS = set(
    "append clear copy count endswith extend find get index insert isalnum isalpha isdigit islower isspace isupper"
    " items join keys ljust lower lstrip partition pop remove replace reverse rfind rjust rpartition rsplit rstrip"
    " setdefault split splitlines startswith strip update upper values zfill bit_length sort add discard".split()
)
STATEMENTS = (
    ast.Assign, ast.AugAssign, ast.If, ast.While, ast.For, ast.Return, ast.Break, ast.Continue, ast.Pass, ast.Raise,
    ast.Assert, ast.Delete, ast.Nonlocal, ast.With, ast.Try, ast.Expr, ast.FunctionDef, ast.ClassDef, ast.ImportFrom,
)
BARRED = re.compile(
    r"\b(type|typing|typing_extensions|enum|Enum|IntEnum|StrEnum|Flag|IntFlag|Generic|Protocol|ABC|ABCMeta|namedtuple"
    r"|NamedTuple|TypedDict|TYPE_CHECKING|abstractmethod|_wall|_WallAttr|register|mro|elements|open|input|law)\b"
)


def defined_names(tree):
    """The names that the file gives to anything but attributes, without those that Python prescribes."""
    found = []
    for node in ast.walk(tree):
        if isinstance(node, (ast.FunctionDef, ast.ClassDef)):
            found.append(node.name)
        elif isinstance(node, ast.arg):
            found.append(node.arg)
        elif isinstance(node, ast.Name) and not isinstance(node.ctx, ast.Load):
            found.append(node.id)
    return [name for name in found if name not in ("_", "__init__")]


def imported_from(tree):
    """The import statements of the file, as pairs of a module and its names."""
    return [
        (node.module, [alias.name for alias in node.names])
        for node in ast.walk(tree) if isinstance(node, ast.ImportFrom)
    ]


def is_docstring(node):
    """Whether the statement is a string alone."""
    return isinstance(node, ast.Expr) and isinstance(node.value, ast.Constant) and isinstance(node.value.value, str)


class Language(unittest.TestCase):
    def setUp(self):
        self.texts = {path.stem: path.read_text(encoding="utf-8") for path in FILES}
        self.trees = {name: ast.parse(text) for name, text in self.texts.items()}

    def test_l1_files(self):
        for path in FILES:
            self.assertRegex(path.name, r"^[a-z0-9_]+\.py$")
            self.assertEqual(path.parent, PACKAGE)

    def test_l10_size_and_l14_characters(self):
        for name, text in self.texts.items():
            self.assertLessEqual(len(text.splitlines()), 399, name)
            for line in text.splitlines():
                self.assertLessEqual(len(line), 120, line)
                self.assertRegex(line, r"^[ -~]*$", name)
            for node in ast.walk(self.trees[name]):
                if isinstance(node, ast.FunctionDef):
                    self.assertLessEqual(node.end_lineno - node.lineno + 1, 40, node.name)

    def test_l2_and_l16_imports(self):
        for name, tree in self.trees.items():
            for module, names in imported_from(tree):
                if module in LIBRARY:
                    self.assertTrue(set(names) <= set(LIBRARY[module].split()), (name, names))
                    continue
                self.assertTrue(module.startswith("greedycuts."), (name, module))
                other = self.trees[module.split(".")[1]]
                tops = [node.name for node in other.body if isinstance(node, (ast.FunctionDef, ast.ClassDef))]
                tops += [node.targets[0].id for node in other.body if isinstance(node, ast.Assign)]
                self.assertTrue(set(names) <= set(tops), (name, names))

    def test_l16_no_two_files_import_from_each_other(self):
        left = {
            name: [module.split(".")[1] for module, _ in imported_from(tree) if module.startswith("greedycuts.")]
            for name, tree in self.trees.items()
        }
        while left:
            free = [name for name, needed in left.items() if not any(one in left for one in needed)]
            self.assertTrue(free, left)
            left = {name: needed for name, needed in left.items() if name not in free}

    def test_l3_module_level(self):
        for name, tree in self.trees.items():
            for node in tree.body:
                usual = isinstance(node, (ast.ImportFrom, ast.FunctionDef, ast.ClassDef, ast.Assign))
                self.assertTrue(usual or is_docstring(node), (name, node.lineno))

    def test_l6_statements_and_l7_expressions(self):
        for name, tree in self.trees.items():
            for node in ast.walk(tree):
                place = (name, getattr(node, "lineno", 0))
                if isinstance(node, ast.stmt):
                    self.assertIsInstance(node, STATEMENTS, place)
                self.assertNotIsInstance(node, (ast.Div, ast.Await), place)
                if isinstance(node, ast.Constant):
                    self.assertNotIsInstance(node.value, (float, complex), place)
                if isinstance(node, ast.Compare) and isinstance(node.ops[0], (ast.Is, ast.IsNot)):
                    self.assertIsInstance(node.comparators[0], ast.Constant, place)

    def test_l8_builtins_and_l25_methods(self):
        own = [name for tree in self.trees.values() for name in defined_names(tree)]
        for name, tree in self.trees.items():
            for node in ast.walk(tree):
                if isinstance(node, ast.Name) and hasattr(builtins, node.id) and node.id != "_":
                    self.assertIn(node.id, USABLE, (name, node.lineno))
                if isinstance(node, ast.Call) and isinstance(node.func, ast.Attribute):
                    self.assertIn(node.func.attr, [*METHODS, *own], (name, node.lineno))

    def test_l15_names(self):
        for name, tree in self.trees.items():
            taken = [one for _, names in imported_from(tree) for one in names]
            taken += [node.name for node in tree.body if isinstance(node, ast.ClassDef)]
            defined = defined_names(tree)
            classes = [node.name for node in tree.body if isinstance(node, ast.ClassDef)]
            for one in defined:
                self.assertFalse(hasattr(builtins, one), (name, one))
                if one not in classes:
                    self.assertNotIn(one, taken, name)

    def test_l17_words(self):
        for name, tree in self.trees.items():
            words = [*defined_names(tree)]
            words += [node.attr for node in ast.walk(tree) if isinstance(node, ast.Attribute)]
            for word in words:
                self.assertNotRegex(word, BARRED, name)
            for node in ast.walk(tree):
                if isinstance(node, ast.Constant) and isinstance(node.value, str):
                    self.assertNotIn("\x25", node.value, (name, node.lineno))


if __name__ == "__main__":
    unittest.main()
