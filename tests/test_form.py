"""Those rules of the language subset that a short look at the files can see."""

import ast
import builtins
import re
import unittest
import warnings
from pathlib import Path

PACKAGE = Path(__file__).resolve().parent.parent / "cutexchange"
FILES = sorted(PACKAGE.glob("*.py"))
BUILTINS = set(
    "len range enumerate zip min max sum abs sorted reversed int str bool list tuple dict set isinstance ord repr any "
    "all divmod ValueError KeyError IndexError ZeroDivisionError True False None".split()
)
BARRED = re.compile(
    r"\b(type|typing|typing_extensions|enum|Enum|IntEnum|StrEnum|Flag|IntFlag|Generic|Protocol|ABC|ABCMeta|namedtuple|"
    r"NamedTuple|TypedDict|TYPE_CHECKING|abstractmethod)\b|dataclass|overload|contextmanager"
)


def bound_names(tree):
    """All names that a file binds, wherever it does."""
    names = {node.name for node in ast.walk(tree) if isinstance(node, (ast.FunctionDef, ast.ClassDef))}
    names |= {node.arg for node in ast.walk(tree) if isinstance(node, ast.arg)}
    names |= {node.id for node in ast.walk(tree) if isinstance(node, ast.Name) and isinstance(node.ctx, ast.Store)}
    return names | {alias.name for node in ast.walk(tree) if isinstance(node, ast.ImportFrom) for alias in node.names}


def each_file():
    """Name, text and tree of each file; a warning of Python itself is an error here."""
    with warnings.catch_warnings():
        warnings.simplefilter("error")
        return [(path.name, path.read_text(), ast.parse(path.read_text())) for path in FILES]


class Form(unittest.TestCase):
    def test_there_are_files(self):
        self.assertTrue({"__init__.py", "errors.py", "numbers.py", "changes.py"} <= {path.name for path in FILES})

    def test_the_folder_holds_nothing_else(self):
        others = [path.name for path in PACKAGE.iterdir() if path not in FILES and path.name != "__pycache__"]
        self.assertEqual(others, [])

    def test_characters_lines_and_words(self):
        for name, text, _ in each_file():
            self.assertEqual([sign for sign in text if not (" " <= sign <= "~" or sign == "\n")], [], name)
            self.assertLessEqual(len(text.splitlines()), 400, name)
            self.assertLessEqual(max(len(line) for line in text.splitlines()), 120, name)
            self.assertIsNone(BARRED.search(text), name)

    def test_functions_are_short(self):
        for name, _, tree in each_file():
            for node in ast.walk(tree):
                if isinstance(node, ast.FunctionDef):
                    self.assertLessEqual(node.end_lineno - node.lineno + 1, 40, (name, node.name))

    def test_imports_are_from_the_package(self):
        for name, _, tree in each_file():
            for node in ast.walk(tree):
                self.assertNotIsInstance(node, ast.Import, name)
                if isinstance(node, ast.ImportFrom):
                    self.assertEqual((node.level, node.module.split(".")[0]), (0, "cutexchange"), name)

    def test_names(self):
        for name, _, tree in each_file():
            own = bound_names(tree)
            barred = [n for n in own if (n.startswith("_") and n != "__init__") or n in dir(builtins)]
            self.assertEqual(barred, [], name)
            read = {node.id for node in ast.walk(tree) if isinstance(node, ast.Name)}
            self.assertEqual(read - own - BUILTINS, set(), name)

    def test_no_percent_sign_in_a_string(self):
        for name, _, tree in each_file():
            for node in ast.walk(tree):
                if isinstance(node, ast.Constant) and isinstance(node.value, str):
                    self.assertNotIn(chr(37), node.value, name)

    def test_no_fractions_of_pythons_own(self):
        for name, _, tree in each_file():
            for node in ast.walk(tree):
                self.assertNotIsInstance(node, ast.Div, name)
                self.assertFalse(isinstance(node, ast.Constant) and isinstance(node.value, (float, complex)), name)

    def test_is_stands_with_none_and_truths_only(self):
        for name, _, tree in each_file():
            for node in ast.walk(tree):
                if isinstance(node, ast.Compare):
                    for sign, right in zip(node.ops, node.comparators):
                        if isinstance(sign, (ast.Is, ast.IsNot)):
                            self.assertIn(ast.unparse(right), ("None", "True", "False"), name)


if __name__ == "__main__":
    unittest.main()
