"""The package keeps to the small part of Python that it is to be written in.

Only what can be told from the text of a file is looked at here; the rule's number stands beside it.
"""

import ast
import builtins
import pathlib
import re
import unittest

PACKAGE = pathlib.Path(__file__).resolve().parent.parent / "handboard"

NODES = """
Module Expr Constant Import ImportFrom alias FunctionDef arguments arg ClassDef Lambda
Assign AugAssign If While For Return Break Continue Pass Raise Try ExceptHandler
BinOp UnaryOp BoolOp Compare IfExp Call keyword Attribute Subscript Slice Name List Tuple Dict Set
ListComp comprehension JoinedStr FormattedValue Load Store
Add Sub Mult FloorDiv Mod Pow BitAnd BitOr BitXor LShift RShift Invert USub UAdd Not And Or
Eq NotEq Lt LtE Gt GtE In NotIn Is IsNot
""".split()

BUILTIN_NAMES = """
len range enumerate zip min max sum abs sorted reversed int str bool list tuple dict set frozenset
isinstance ord repr any all divmod
Exception ValueError TypeError KeyError IndexError LookupError ZeroDivisionError ArithmeticError
OverflowError RuntimeError NotImplementedError AttributeError StopIteration
""".split()

METHODS = """
append clear copy count endswith extend find get index insert isalnum isalpha isdigit islower isspace
isupper items join keys ljust lower lstrip partition pop remove replace reverse rfind rjust rpartition
rsplit rstrip setdefault split splitlines startswith strip update upper values zfill bit_length
""".split()

WORDS = """
type typing typing_extensions enum Enum IntEnum StrEnum Flag IntFlag Generic Protocol ABC ABCMeta
namedtuple NamedTuple TypedDict TYPE_CHECKING abstractmethod
""".split()


def package_files():
    return sorted(path for path in PACKAGE.rglob("*") if path.is_file() and "__pycache__" not in path.parts)


def parsed_files():
    for path in package_files():
        text = path.read_bytes().decode("ascii")
        yield path, text, ast.parse(text)


def names_at_the_top(module):
    """The names that this file of the package defines itself."""
    package, name = module.split(".")
    tree = ast.parse((PACKAGE.parent / package / f"{name}.py").read_text())
    names = [node.name for node in tree.body if isinstance(node, (ast.FunctionDef, ast.ClassDef))]
    return names + [node.targets[0].id for node in tree.body if isinstance(node, ast.Assign)]


def imported_names(tree):
    return [alias.name for node in tree.body if isinstance(node, ast.ImportFrom) for alias in node.names]


def own_methods(tree):
    return [node.name for one in tree.body if isinstance(one, ast.ClassDef) for node in one.body]


def own_values(tree):
    """What the file's objects keep: the names that are given a value behind a dot."""
    return [node.attr for node in ast.walk(tree) if isinstance(node, ast.Attribute) and isinstance(node.ctx, ast.Store)]


def bound_names(tree):
    """Every name that the file binds: by a def, a class, a parameter, an assignment, a loop."""
    for node in ast.walk(tree):
        if isinstance(node, (ast.FunctionDef, ast.ClassDef)):
            yield node.name
        elif isinstance(node, ast.arg):
            yield node.arg
        elif isinstance(node, ast.Name) and isinstance(node.ctx, ast.Store):
            yield node.id


class Form(unittest.TestCase):
    def test_files(self):
        """L1, L14"""
        names = [path.name for path in package_files()]
        self.assertIn("__init__.py", names)
        for name in names:
            self.assertRegex(name, r"^([a-z][a-z0-9_]*|__init__|__main__)\.py$")
            self.assertNotIn(name[:-3], dir(builtins) + WORDS)
            self.assertNotRegex(name, r"^(test|conftest|site)")

    def test_signs_and_size(self):
        """L10, L14"""
        for path, text, tree in parsed_files():
            with self.subTest(path=path.name):
                self.assertRegex(text, r"\A[ -~\n]*\Z")
                lines = text.splitlines()
                self.assertLessEqual(len(lines), 400)
                self.assertLessEqual(max(len(line) for line in lines), 120)
                for node in ast.walk(tree):
                    if isinstance(node, ast.FunctionDef):
                        self.assertLessEqual(node.end_lineno - node.lineno + 1, 40, node.name)

    def test_words(self):
        """L17, L27"""
        for path, text, tree in parsed_files():
            with self.subTest(path=path.name):
                self.assertEqual([word for word in re.findall(r"\w+", text) if word in WORDS], [])
                self.assertNotRegex(text, "dataclass|overload|contextmanager")
                for node in ast.walk(tree):
                    if isinstance(node, ast.Constant) and isinstance(node.value, str):
                        self.assertNotIn("%", node.value)

    def test_kinds_of_statements_and_expressions(self):
        """L4, L5, L6, L7"""
        for path, text, tree in parsed_files():
            with self.subTest(path=path.name):
                for node in ast.walk(tree):
                    self.assertIn(node.__class__.__name__, NODES)
                    if isinstance(node, ast.Assign):
                        self.assertEqual(len(node.targets), 1)
                    if isinstance(node, (ast.For, ast.While)):
                        self.assertEqual(node.orelse, [])
                    if isinstance(node, ast.ListComp):
                        self.assertEqual(len(node.generators), 1)
                        self.assertLessEqual(len(node.generators[0].ifs), 1)
                    if isinstance(node, (ast.FunctionDef, ast.ClassDef)):
                        self.assertEqual(node.decorator_list, [])
                    if isinstance(node, ast.arguments):
                        self.assertEqual((node.vararg, node.kwarg, node.kwonlyargs), (None, None, []))
                    if isinstance(node, ast.Constant):
                        self.assertNotIsInstance(node.value, (float, complex, bytes))

    def test_imports(self):
        """L2, L16: from the package's own files alone, and never round in a ring."""
        drawn = {}
        for path, text, tree in parsed_files():
            with self.subTest(path=path.name):
                module = f"handboard.{path.stem}"
                drawn[module] = []
                for node in ast.walk(tree):
                    self.assertNotIsInstance(node, ast.Import)
                    if isinstance(node, ast.ImportFrom):
                        self.assertIn(node, tree.body)
                        self.assertEqual(node.level, 0)
                        defined = names_at_the_top(node.module)
                        for alias in node.names:
                            self.assertIsNone(alias.asname)
                            self.assertIn(alias.name, defined)
                        drawn[module].append(node.module)
        while drawn:
            free = [module for module, others in drawn.items() if not any(other in drawn for other in others)]
            self.assertNotEqual(free, [], drawn)
            for module in free:
                drawn.pop(module)

    def test_top_of_a_file(self):
        """L3, L15"""
        for path, text, tree in parsed_files():
            with self.subTest(path=path.name):
                self.assertIsNotNone(ast.get_docstring(tree))
                names = []
                for node in tree.body[1:]:
                    self.assertIsInstance(node, (ast.ImportFrom, ast.FunctionDef, ast.ClassDef, ast.Assign))
                    if isinstance(node, ast.Assign):
                        ast.literal_eval(node.value)
                        names.append(node.targets[0].id)
                    elif isinstance(node, ast.ImportFrom):
                        names.extend(alias.name for alias in node.names)
                    else:
                        names.append(node.name)
                self.assertEqual(len(names), len(set(names)))

    def test_classes(self):
        """L5, L12, L18, L26"""
        trees = [tree for path, text, tree in parsed_files()]
        methods = [name for tree in trees for name in own_methods(tree)]
        values = [name for tree in trees for name in own_values(tree)]
        taken = [name for kind in (str, int, list, tuple, dict, set, bytes) for name in dir(kind)]
        self.assertEqual(set(methods) & set(values), set())
        for name in methods + values:
            if name not in ("__init__", "__eq__", "__repr__", "__str__", "__len__"):
                self.assertRegex(name, r"^[A-Za-z][A-Za-z0-9_]*$")
                self.assertNotIn(name, taken)
        for tree in trees:
            for node in ast.walk(tree):
                if isinstance(node, ast.ClassDef):
                    self.assertIn(node, tree.body)
                    self.assertLessEqual(len(node.bases), 1)
                    self.assertEqual(node.keywords, [])
                    names = [one.name for one in node.body if isinstance(one, ast.FunctionDef)]
                    self.assertEqual(len(names), len(node.body))
                    self.assertEqual(len(names), len(set(names)))

    def test_names(self):
        """L8, L12, L15, L25"""
        own = [name for path, text, tree in parsed_files() for name in own_methods(tree) + own_values(tree)]
        for path, text, tree in parsed_files():
            with self.subTest(path=path.name):
                imported = imported_names(tree)
                bound = list(bound_names(tree))
                for name in bound:
                    if name != "__init__":
                        self.assertRegex(name, r"^[A-Za-z][A-Za-z0-9_]*$")
                    self.assertNotIn(name, dir(builtins))
                    self.assertNotIn(name, imported)
                for node in ast.walk(tree):
                    if isinstance(node, ast.Name):
                        self.assertIn(node.id, bound + imported + BUILTIN_NAMES)
                    if isinstance(node, ast.Attribute):
                        self.assertIn(node.attr, METHODS + own)


if __name__ == "__main__":
    unittest.main()
