"""The package keeps to those rules of its Python subset that can be read off the text."""

import ast
import builtins
import pathlib
import re
import unittest

PACKAGE = pathlib.Path(__file__).resolve().parent.parent / "treesapart"
FILES = sorted(PACKAGE.rglob("*.py"))

BUILTINS = set("""len range enumerate zip min max sum abs sorted reversed int str bool bytes list tuple
dict set isinstance ord repr any all divmod iter next super property staticmethod classmethod object
Exception ValueError TypeError KeyError IndexError LookupError ZeroDivisionError ArithmeticError
OverflowError RuntimeError NotImplementedError AttributeError StopIteration NotImplemented""".split())
WORDS = set("""type typing typing_extensions enum Enum IntEnum StrEnum Flag IntFlag Generic Protocol ABC
ABCMeta namedtuple NamedTuple TypedDict TYPE_CHECKING abstractmethod""".split())
PIECES = ("dataclass", "overload", "contextmanager")
DOUBLE = set("""__init__ __eq__ __repr__ __str__ __len__ __enter__ __exit__ __call__ __iter__""".split())
BARRED = (ast.Global, ast.AsyncFunctionDef, ast.AsyncFor, ast.AsyncWith, ast.Await, ast.Div, ast.Import)


def names_given(tree):
    """The names that a file binds, with the lines where it does so."""
    for node in ast.walk(tree):
        if isinstance(node, (ast.FunctionDef, ast.ClassDef)):
            yield node.name, node.lineno
        elif isinstance(node, ast.arg):
            yield node.arg, node.lineno
        elif isinstance(node, ast.Name) and isinstance(node.ctx, ast.Store):
            yield node.id, node.lineno


def read_files():
    """Name, text and tree of each file of the package."""
    texts = [(path.name, path.read_text(encoding="utf-8")) for path in FILES]
    return [(name, text, ast.parse(text)) for name, text in texts]


class LanguageTest(unittest.TestCase):
    def test_folder(self):
        for path in PACKAGE.rglob("*"):
            # A run of the program leaves this folder, which is no part of the package.
            if "__pycache__" not in path.parts:
                self.assertRegex(path.name, r"^[a-z0-9_]+\.py$")
        self.assertIn(PACKAGE / "__init__.py", FILES)

    def test_sizes_and_signs(self):
        for file, text, tree in read_files():
            lines = text.split("\n")
            self.assertLessEqual(len(lines), 401, file)
            self.assertLessEqual(max(len(line) for line in lines), 120, file)
            self.assertRegex(text, r"\A[\n -~]*\Z", file)
            for node in ast.walk(tree):
                if isinstance(node, ast.FunctionDef):
                    self.assertLessEqual(node.end_lineno - node.lineno + 1, 40, f"{file}: {node.name}")

    def test_words(self):
        for file, text, tree in read_files():
            self.assertEqual(WORDS & set(re.findall(r"\w+", text)), set(), file)
            for piece in PIECES:
                self.assertNotIn(piece, text, file)

    def test_imports(self):
        for file, text, tree in read_files():
            for node in ast.walk(tree):
                if isinstance(node, ast.ImportFrom):
                    self.assertIn(node, tree.body, file)
                    self.assertEqual(node.level, 0, file)
                    named = PACKAGE.parent / (node.module.replace(".", "/") + ".py")
                    self.assertTrue(node.module == "__future__" or named in FILES, f"{file}: {node.module}")

    def test_statements_and_numbers(self):
        for file, text, tree in read_files():
            for node in ast.walk(tree):
                self.assertNotIsInstance(node, BARRED, file)
                if isinstance(node, ast.Constant):
                    self.assertNotIsInstance(node.value, (float, complex), file)
                    if isinstance(node.value, str):
                        self.assertNotIn("%", node.value, file)

    def test_names(self):
        for file, text, tree in read_files():
            for name, line in names_given(tree):
                self.assertTrue(name in DOUBLE or not name.startswith("_"), f"{file}, line {line}: {name}")
            for node in ast.walk(tree):
                if isinstance(node, ast.Name) and hasattr(builtins, node.id):
                    self.assertIn(node.id, BUILTINS, f"{file}, line {node.lineno}")
                    self.assertIsInstance(node.ctx, ast.Load, f"{file}, line {node.lineno}: {node.id}")
                if isinstance(node, ast.arg):
                    self.assertFalse(hasattr(builtins, node.arg), f"{file}, line {node.lineno}: {node.arg}")
