"""The package keeps to the small part of Python that it is to be written in: what can be seen of its files."""

import ast
import builtins
import pathlib
import re
import unittest

PACKAGE = pathlib.Path(__file__).resolve().parent.parent / "blanched"
FILES = sorted(path for path in PACKAGE.rglob("*") if "__pycache__" not in path.parts)

NODES = (
    "Module FunctionDef ClassDef arguments arg ImportFrom alias Expr Assign AugAssign If While For Return Break Continue "
    "Pass Raise Try ExceptHandler Constant List Tuple Dict Name Attribute Subscript Slice Call keyword BinOp UnaryOp "
    "BoolOp Compare IfExp ListComp comprehension JoinedStr FormattedValue Lambda Load Store "
    "Add Sub Mult FloorDiv Mod Pow BitAnd BitOr BitXor LShift RShift Invert Not USub And Or "
    "Eq NotEq Lt LtE Gt GtE Is IsNot In NotIn"
).split()
OWN_OF_PYTHON = (
    "len range enumerate zip min max sum abs sorted reversed int str bool list tuple dict set frozenset isinstance ord "
    "repr any all divmod Exception ValueError TypeError KeyError IndexError LookupError ZeroDivisionError "
    "ArithmeticError OverflowError RuntimeError NotImplementedError AttributeError StopIteration"
).split()
METHODS = (
    "append clear copy count endswith extend find get index insert isalnum isalpha isdigit islower isspace isupper items "
    "join keys ljust lower lstrip partition pop remove replace reverse rfind rjust rpartition rsplit rstrip setdefault "
    "split splitlines startswith strip update upper values zfill bit_length"
).split()
WORDS = (
    "type typing typing_extensions enum Enum IntEnum StrEnum Flag IntFlag Generic Protocol ABC ABCMeta namedtuple "
    "NamedTuple TypedDict TYPE_CHECKING abstractmethod"
).split()


def tree_of(path):
    return ast.parse(path.read_text(encoding="utf-8"))


def bound_at_top(tree):
    """The names that a file itself binds at its top."""
    names = []
    for step in tree.body:
        if isinstance(step, (ast.FunctionDef, ast.ClassDef)):
            names.append(step.name)
        elif isinstance(step, ast.Assign):
            names.extend(target.id for target in step.targets)
    return names


def drawn(tree):
    """The names that a file imports, with the file each comes from."""
    return [(step.module, alias) for step in tree.body if isinstance(step, ast.ImportFrom) for alias in step.names]


class Language(unittest.TestCase):
    def each(self):
        for path in FILES:
            with self.subTest(path.name):
                yield path, path.read_text(encoding="utf-8"), tree_of(path)

    def test_files(self):
        self.assertIn(PACKAGE / "__init__.py", FILES)
        for path in FILES:
            self.assertRegex(path.name, r"^([a-z][a-z0-9_]*|__init__)\.py$")

    def test_signs_and_sizes(self):
        for path, text, tree in self.each():
            self.assertRegex(text, r"\A[ -~\n]*\Z")
            self.assertLessEqual(len(text.splitlines()), 400)
            self.assertLessEqual(max(len(row) for row in text.splitlines()), 120)
            for node in ast.walk(tree):
                if isinstance(node, ast.FunctionDef):
                    self.assertLessEqual(node.end_lineno - node.lineno + 1, 40, node.name)

    def test_words(self):
        for path, text, tree in self.each():
            self.assertEqual([word for word in WORDS if re.search(rf"\b{word}\b", text)], [])
            self.assertNotRegex(text, "dataclass|overload|contextmanager")

    def test_nodes(self):
        for path, text, tree in self.each():
            for node in ast.walk(tree):
                self.assertIn(node.__class__.__name__, NODES)
                if isinstance(node, ast.Assign):
                    self.assertEqual(len(node.targets), 1)
                    self.assertNotIsInstance(node.targets[0], (ast.Tuple, ast.List))
                if isinstance(node, (ast.For, ast.While)):
                    self.assertEqual(node.orelse, [])
                if isinstance(node, ast.FunctionDef):
                    self.assertEqual((node.decorator_list, node.args.vararg, node.args.kwarg), ([], None, None))
                if isinstance(node, ast.Constant):
                    self.assertIsInstance(node.value, (int, str, bool, type(None)))

    def test_imports(self):
        draws = {}
        for path, text, tree in self.each():
            draws[f"blanched.{path.stem}"] = [module for module, alias in drawn(tree)]
            for module, alias in drawn(tree):
                self.assertRegex(module, r"^blanched\.[a-z_]+$")
                source = PACKAGE / (module.split(".")[1] + ".py")
                self.assertIn(alias.name, bound_at_top(tree_of(source)))
                self.assertIsNone(alias.asname)
        while draws:
            free = [name for name in draws if not any(module in draws for module in draws[name])]
            self.assertNotEqual(free, [], "files draw from one another in a ring")
            for name in free:
                del draws[name]

    def test_names(self):
        for path, text, tree in self.each():
            top = bound_at_top(tree)
            imported = [alias.name for module, alias in drawn(tree)]
            self.assertEqual(len(top + imported), len(set(top + imported)))
            stored = [node.arg for node in ast.walk(tree) if isinstance(node, ast.arg)]
            names = [node for node in ast.walk(tree) if isinstance(node, ast.Name)]
            stored.extend(node.id for node in names if isinstance(node.ctx, ast.Store))
            for name in stored + top:
                self.assertRegex(name, r"^[A-Za-z][A-Za-z0-9_]*$")
                self.assertNotIn(name, dir(builtins))
                self.assertNotIn(name, imported)
            for node in names:
                self.assertIn(node.id, top + imported + stored + OWN_OF_PYTHON)

    def test_methods(self):
        own = [
            node.name for path in FILES for kind in ast.walk(tree_of(path)) if isinstance(kind, ast.ClassDef)
            for node in kind.body if isinstance(node, ast.FunctionDef)
        ]
        for path, text, tree in self.each():
            for node in ast.walk(tree):
                if isinstance(node, ast.Call) and isinstance(node.func, ast.Attribute):
                    self.assertIn(node.func.attr, METHODS + own)


if __name__ == "__main__":
    unittest.main()
