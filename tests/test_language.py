"""The package's files against a part of the language's rules: not every rule is looked at here."""

import ast
import builtins
import pathlib
import re
import unittest

PYTHONS_NAMES = [name for name in dir(builtins) if not name.startswith("_")]
FOLDER = pathlib.Path(__file__).resolve().parent.parent / "piecetook"

NODES = """
Module FunctionDef ClassDef arguments arg Return Assign AugAssign For While If Raise Try ExceptHandler ImportFrom alias
Expr Pass Break Continue BoolOp BinOp UnaryOp Lambda IfExp Dict Set ListComp comprehension Compare Call Constant
Attribute Subscript Slice Name List Tuple JoinedStr FormattedValue keyword Load Store
Add Sub Mult FloorDiv Mod Pow LShift RShift BitOr BitXor BitAnd And Or Not Invert USub UAdd
Eq NotEq Lt LtE Gt GtE Is IsNot In NotIn
""".split()

OWN_NAMES = """
len range enumerate zip min max sum abs sorted reversed int str bool list tuple dict set frozenset isinstance ord repr
any all divmod Exception ValueError TypeError KeyError IndexError LookupError ZeroDivisionError ArithmeticError
OverflowError RuntimeError NotImplementedError AttributeError StopIteration
""".split()

OWN_METHODS = """
append clear copy count endswith extend find get index insert isalnum isalpha isdigit islower isspace isupper items
join keys ljust lower lstrip partition pop remove replace reverse rfind rjust rpartition rsplit rstrip setdefault split
splitlines startswith strip update upper values zfill bit_length
""".split()

UNDERSCORED = ["__init__", "__eq__", "__repr__", "__str__", "__len__", "__all__", "__version__"]

UNUSED_WORDS = """
type typing typing_extensions enum Enum IntEnum StrEnum Flag IntFlag Generic Protocol ABC ABCMeta namedtuple NamedTuple
TypedDict TYPE_CHECKING abstractmethod register mro elements open input version_info with_traceback add_note
""".split()

UNUSED_PARTS = ["dataclass", "overload", "contextmanager"]


def sources():
    return {path: path.read_bytes().decode("ascii") for path in sorted(FOLDER.rglob("*.py"))}


def trees():
    return {path: ast.parse(text) for path, text in sources().items()}


def nodes():
    return [(path, node) for path, tree in trees().items() for node in ast.walk(tree)]


def bound_name(node):
    if isinstance(node, (ast.FunctionDef, ast.ClassDef, ast.ExceptHandler)):
        return node.name
    if isinstance(node, ast.arg):
        return node.arg
    if isinstance(node, ast.Name) and isinstance(node.ctx, ast.Store):
        return node.id
    if isinstance(node, ast.Attribute) and isinstance(node.ctx, ast.Store):
        return node.attr
    return None


def is_plain(node):
    if isinstance(node, (ast.List, ast.Tuple)):
        return all(is_plain(part) for part in node.elts)
    if isinstance(node, ast.Dict):
        return all(is_plain(part) for part in node.keys + node.values)
    if isinstance(node, ast.UnaryOp):
        return isinstance(node.op, ast.USub) and isinstance(node.operand, ast.Constant)
    return isinstance(node, ast.Constant)


def own_values():
    return [node.attr for _, node in nodes() if isinstance(node, ast.Attribute) and isinstance(node.ctx, ast.Store)]


def own_methods():
    return [part.name for _, node in nodes() if isinstance(node, ast.ClassDef)
            for part in node.body if isinstance(part, ast.FunctionDef)]


class Files(unittest.TestCase):
    def test_only_plain_modules(self):
        self.assertIn(FOLDER / "makings.py", sources())
        self.assertIn(FOLDER / "__init__.py", sources())
        for path in FOLDER.rglob("*"):
            if "__pycache__" not in path.parts:
                self.assertRegex(path.name, r"^(__init__|__main__|[a-z][a-z0-9_]*)\.py$")
                self.assertNotIn(path.stem, PYTHONS_NAMES, path)

    def test_signs_and_sizes(self):
        for path, text in sources().items():
            rows = text.split("\n")
            self.assertLessEqual(len(rows), 401, path)
            for number, row in enumerate(rows, start=1):
                self.assertRegex(row, r"^[ -~]{0,120}$", f"{path}:{number}")

    def test_words_that_are_not_used(self):
        for path, text in sources().items():
            for word in UNUSED_WORDS:
                self.assertIsNone(re.search(rf"\b{word}\b", text), f"{path}: {word}")
            for part in UNUSED_PARTS:
                self.assertNotIn(part, text, path)


class Code(unittest.TestCase):
    def test_forms(self):
        for path, node in nodes():
            where = f"{path}:{getattr(node, 'lineno', '')} {ast.dump(node)[:80]}"
            self.assertIn(node.__class__.__name__, NODES, where)
            if isinstance(node, ast.FunctionDef):
                self.assertLessEqual(node.end_lineno - node.lineno + 1, 40, where)
            if isinstance(node, (ast.FunctionDef, ast.ClassDef)):
                self.assertEqual(node.decorator_list, [], where)
            if isinstance(node, ast.arguments):
                self.assertFalse(node.vararg or node.kwarg or node.kwonlyargs or node.posonlyargs, where)
            if isinstance(node, ast.Assign):
                self.assertEqual(len(node.targets), 1, where)
            if isinstance(node, (ast.For, ast.While)):
                self.assertEqual(node.orelse, [], where)
            if isinstance(node, ast.Constant):
                self.assertFalse(isinstance(node.value, (float, complex, bytes)), where)

    def test_imports(self):
        for path, tree in trees().items():
            for node in ast.walk(tree):
                if isinstance(node, ast.ImportFrom):
                    self.assertIn(node, tree.body, path)
                    self.assertEqual(node.level, 0, path)
                    self.assertRegex(node.module, r"^piecetook\.[a-z]", path)
                    self.assertNotIn("*", [name.name for name in node.names], path)

    def test_names(self):
        for path, node in nodes():
            name = bound_name(node)
            if name is not None and name not in UNDERSCORED:
                self.assertRegex(name, r"^[A-Za-z]", path)
                if not isinstance(node, (ast.FunctionDef, ast.Attribute)):
                    self.assertNotIn(name, PYTHONS_NAMES, path)
            if isinstance(node, ast.Name) and node.id in dir(builtins):
                self.assertIn(node.id, OWN_NAMES, path)

    def test_methods(self):
        known = OWN_METHODS + own_methods()
        for path, node in nodes():
            if isinstance(node, ast.Call) and isinstance(node.func, ast.Attribute):
                self.assertIn(node.func.attr, known, f"{path}:{node.lineno}")

    def test_no_name_is_a_method_and_a_value(self):
        self.assertEqual(sorted(set(own_methods()) & set(own_values())), [])

    def test_plain_values_at_the_top(self):
        for path, tree in trees().items():
            for node in tree.body:
                if isinstance(node, ast.Assign):
                    self.assertTrue(is_plain(node.value), f"{path}:{node.lineno}")

    def test_comprehensions_have_one_for_and_one_if_at_most(self):
        for path, node in nodes():
            if isinstance(node, ast.ListComp):
                self.assertEqual(len(node.generators), 1, f"{path}:{node.lineno}")
                self.assertLessEqual(len(node.generators[0].ifs), 1, f"{path}:{node.lineno}")

    def test_each_name_once_at_the_top(self):
        for path, tree in trees().items():
            names = []
            for node in tree.body:
                if isinstance(node, ast.Assign):
                    names.append(node.targets[0].id)
                elif isinstance(node, ast.ImportFrom):
                    names.extend(name.asname or name.name for name in node.names)
                elif isinstance(node, (ast.FunctionDef, ast.ClassDef)):
                    names.append(node.name)
            self.assertEqual(sorted(set(names)), sorted(names), path)


if __name__ == "__main__":
    unittest.main()
