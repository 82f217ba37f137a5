"""The package keeps to those rules of its Python subset that can be read off the text."""

import ast
import builtins
import pathlib
import re
import unittest

PACKAGE = pathlib.Path(__file__).resolve().parent.parent / "treesapart"
FILES = sorted(PACKAGE.rglob("*.py"))

BUILTINS = set("""len range enumerate zip min max sum abs sorted reversed int str bool bytes list tuple
dict set isinstance ord repr any all divmod iter next super property staticmethod classmethod object
Exception ValueError TypeError KeyError IndexError LookupError ZeroDivisionError ArithmeticError
OverflowError RuntimeError NotImplementedError AttributeError StopIteration NotImplemented""".split())
WORDS = set("""type typing typing_extensions enum Enum IntEnum StrEnum Flag IntFlag Generic Protocol ABC
ABCMeta namedtuple NamedTuple TypedDict TYPE_CHECKING abstractmethod""".split())
PIECES = ("dataclass", "overload", "contextmanager")
DOUBLE = set("""__init__ __eq__ __repr__ __str__ __len__ __enter__ __exit__ __call__ __iter__""".split())
BARRED = (ast.Global, ast.AsyncFunctionDef, ast.AsyncFor, ast.AsyncWith, ast.Await, ast.Div, ast.Import)


METHODS = set("""append clear copy count endswith extend find get index insert isalnum isalpha isdigit
islower isspace isupper items join keys ljust lower lstrip partition pop remove replace reverse rfind rjust
rpartition rsplit rstrip setdefault split splitlines startswith strip update upper values zfill bit_length
title capitalize swapcase casefold center expandtabs removeprefix removesuffix rindex isascii isdecimal
isnumeric istitle isidentifier isprintable sort""".split())
PASSING = ("range", "zip", "enumerate", "reversed")
VIEWS = ("items", "keys", "values")
TAKERS = set("list tuple dict sorted sum any all enumerate zip min max len reversed".split())


def names_given(tree):
    """The names that a file binds, with the lines where it does so."""
    for node in ast.walk(tree):
        if isinstance(node, (ast.FunctionDef, ast.ClassDef)):
            yield node.name, node.lineno
        elif isinstance(node, ast.arg):
            yield node.arg, node.lineno
        elif isinstance(node, ast.Name) and isinstance(node.ctx, ast.Store):
            yield node.id, node.lineno


def called(node):
    """The name by which a call calls, or None."""
    if not isinstance(node, ast.Call):
        return None
    return node.func.id if isinstance(node.func, ast.Name) else getattr(node.func, "attr", None)


def iterated_at_once(tree):
    """The nodes that stand where something is iterated on the spot."""
    spots = []
    for node in ast.walk(tree):
        if isinstance(node, (ast.For, ast.comprehension)):
            spots.append(node.iter)
        elif isinstance(node, ast.Call) and (called(node) in TAKERS or called(node) == "join"):
            spots += node.args
        elif isinstance(node, ast.Compare):
            spots += node.comparators
    return spots


def defined_by(node):
    """The names that a statement at module level defines."""
    if isinstance(node, (ast.FunctionDef, ast.ClassDef)):
        return [node.name]
    return [target.id for target in node.targets] if isinstance(node, ast.Assign) else []


def classes_of(tree):
    return [node.name for node in tree.body if isinstance(node, ast.ClassDef)]


def read_files():
    """Name, text and tree of each file of the package."""
    texts = [(path.name, path.read_text(encoding="utf-8")) for path in FILES]
    return [(name, text, ast.parse(text)) for name, text in texts]


class LanguageTest(unittest.TestCase):
    def test_folder(self):
        for path in PACKAGE.rglob("*"):
            # A run of the program leaves this folder, which is no part of the package.
            if "__pycache__" not in path.parts:
                self.assertRegex(path.name, r"^[a-z0-9_]+\.py$")
        self.assertIn(PACKAGE / "__init__.py", FILES)

    def test_sizes_and_signs(self):
        for file, text, tree in read_files():
            lines = text.split("\n")
            self.assertLessEqual(len(lines), 401, file)
            self.assertLessEqual(max(len(line) for line in lines), 120, file)
            self.assertRegex(text, r"\A[\n -~]*\Z", file)
            for node in ast.walk(tree):
                if isinstance(node, ast.FunctionDef):
                    self.assertLessEqual(node.end_lineno - node.lineno + 1, 40, f"{file}: {node.name}")

    def test_words(self):
        for file, text, tree in read_files():
            self.assertEqual(WORDS & set(re.findall(r"\w+", text)), set(), file)
            for piece in PIECES:
                self.assertNotIn(piece, text, file)

    def test_imports(self):
        for file, text, tree in read_files():
            for node in ast.walk(tree):
                if isinstance(node, ast.ImportFrom):
                    self.assertIn(node, tree.body, file)
                    self.assertEqual(node.level, 0, file)
                    named = PACKAGE.parent / (node.module.replace(".", "/") + ".py")
                    self.assertTrue(node.module == "__future__" or named in FILES, f"{file}: {node.module}")

    def test_statements_and_numbers(self):
        for file, text, tree in read_files():
            for node in ast.walk(tree):
                self.assertNotIsInstance(node, BARRED, file)
                if isinstance(node, ast.Constant):
                    self.assertNotIsInstance(node.value, (float, complex), file)
                    if isinstance(node.value, str):
                        self.assertNotIn("%", node.value, file)

    def test_names(self):
        for file, text, tree in read_files():
            for name, line in names_given(tree):
                self.assertTrue(name in DOUBLE or not name.startswith("_"), f"{file}, line {line}: {name}")
            for node in ast.walk(tree):
                if isinstance(node, ast.Name) and hasattr(builtins, node.id):
                    self.assertIn(node.id, BUILTINS, f"{file}, line {node.lineno}")
                    self.assertIsInstance(node.ctx, ast.Load, f"{file}, line {node.lineno}: {node.id}")
                if isinstance(node, ast.arg):
                    self.assertFalse(hasattr(builtins, node.arg), f"{file}, line {node.lineno}: {node.arg}")

    def test_no_local_name_is_that_of_an_import_or_a_class(self):
        for file, text, tree in read_files():
            top = [alias.name for node in tree.body if isinstance(node, ast.ImportFrom) for alias in node.names]
            top += classes_of(tree)
            self.assertEqual(len(top), len(set(top)), file)
            given = [name for name, line in names_given(tree)]
            for name in top:
                self.assertLessEqual(given.count(name), 1 if name in classes_of(tree) else 0, f"{file}: {name}")

    def test_imports_name_the_file_that_defines_and_make_no_round(self):
        defined = {file[:-3]: {name for node in tree.body for name in defined_by(node)}
                   for file, text, tree in read_files()}
        wants = {}
        for file, text, tree in read_files():
            nodes = [node for node in tree.body if isinstance(node, ast.ImportFrom)]
            wants[file[:-3]] = {node.module.split(".")[1] for node in nodes}
            for node in nodes:
                for alias in node.names:
                    self.assertIn(alias.name, defined[node.module.split(".")[1]], file)
        while wants:
            ready = [file for file in wants if not wants[file] & set(wants)]
            self.assertTrue(ready, f"these import from each other: {sorted(wants)}")
            wants = {file: wants[file] for file in wants if file not in ready}

    def test_methods_and_attributes(self):
        methods, attributes, asked = set(), set(), set()
        for file, text, tree in read_files():
            for node in ast.walk(tree):
                if isinstance(node, ast.ClassDef):
                    methods |= {one.name for one in node.body if isinstance(one, ast.FunctionDef)}
                elif isinstance(node, ast.Attribute) and isinstance(node.ctx, ast.Store):
                    attributes.add(node.attr)
                elif isinstance(node, ast.Attribute):
                    asked.add(node.attr)
        self.assertEqual(methods & attributes, set())
        self.assertEqual(asked - methods - attributes - METHODS, set())

    def test_iterated_at_once(self):
        for file, text, tree in read_files():
            spots = iterated_at_once(tree)
            for node in ast.walk(tree):
                if called(node) in PASSING + VIEWS or isinstance(node, ast.GeneratorExp):
                    self.assertIn(node, spots, f"{file}, line {node.lineno}")

    def test_sets_stand_on_the_spot(self):
        for file, text, tree in read_files():
            spots = iterated_at_once(tree)
            for node in ast.walk(tree):
                if called(node) == "set" or isinstance(node, (ast.Set, ast.SetComp)):
                    self.assertIn(node, spots, f"{file}, line {node.lineno}")
