"""The form of the package's own files: the rules of its language that a walk through the source can see."""

import ast
import pathlib
import re
import unittest

PACKAGE = pathlib.Path(__file__).resolve().parent.parent / "stockruns"
FILES = sorted(PACKAGE.rglob("*.py"))

NODES = """
Module Import ImportFrom alias FunctionDef arguments arg ClassDef Assign AugAssign If While For Return Break Continue
Pass Raise Try ExceptHandler Expr Call Attribute Subscript Slice Name Constant List Tuple Dict Set Load Store BinOp
UnaryOp BoolOp Compare IfExp ListComp comprehension JoinedStr FormattedValue Lambda keyword Add Sub Mult FloorDiv Mod
Pow BitAnd BitOr BitXor LShift RShift Invert Not UAdd USub And Or Eq NotEq Lt LtE Gt GtE In NotIn Is IsNot
""".split()
OWN_OF_PYTHON = """
len range enumerate zip min max sum abs sorted reversed int str bool list tuple dict set frozenset isinstance ord repr
any all divmod Exception ValueError TypeError KeyError IndexError LookupError ZeroDivisionError ArithmeticError
OverflowError RuntimeError NotImplementedError AttributeError StopIteration
""".split()
METHODS_OF_PYTHON = """
append clear copy count endswith extend find get index insert isalnum isalpha isdigit islower isspace isupper items join
keys ljust lower lstrip partition pop remove replace reverse rfind rjust rpartition rsplit rstrip setdefault split
splitlines startswith strip update upper values zfill bit_length
""".split()
WORDS_NOWHERE = """
type typing typing_extensions enum Enum IntEnum StrEnum Flag IntFlag Generic Protocol ABC ABCMeta namedtuple NamedTuple
TypedDict TYPE_CHECKING abstractmethod
""".split()


def nodes_of(path):
    return list(ast.walk(ast.parse(path.read_text(encoding="ascii"))))


def bound_names(nodes):
    """All names that a file binds: by a def, a class, an import, a parameter or an assignment."""
    names = set()
    for node in nodes:
        if isinstance(node, (ast.FunctionDef, ast.ClassDef)):
            names.add(node.name)
        elif isinstance(node, ast.alias):
            names.add(node.asname or node.name)
        elif isinstance(node, ast.arg):
            names.add(node.arg)
        elif isinstance(node, ast.Name) and isinstance(node.ctx, ast.Store):
            names.add(node.id)
    return names


def own_methods():
    names = set()
    for path in FILES:
        for node in nodes_of(path):
            if isinstance(node, ast.ClassDef):
                names |= {part.name for part in node.body if isinstance(part, ast.FunctionDef)}
    return names


def own_values():
    """The values that the package's objects are given."""
    nodes = [node for path in FILES for node in nodes_of(path)]
    return {node.attr for node in nodes if isinstance(node, ast.Attribute) and isinstance(node.ctx, ast.Store)}


class Language(unittest.TestCase):
    def test_the_files(self):
        found = [path for path in PACKAGE.rglob("*") if "__pycache__" not in path.parts]
        self.assertEqual(sorted(found), FILES)
        self.assertIn(PACKAGE / "__init__.py", FILES)
        for path in FILES:
            self.assertTrue(re.fullmatch(r"__init__|[a-z][a-z0-9_]*", path.stem), path)

    def test_sizes_and_signs(self):
        for path in FILES:
            text = path.read_bytes().decode("ascii")
            self.assertTrue(all(sign == "\n" or " " <= sign <= "~" for sign in text), path)
            lines = text.splitlines()
            self.assertLessEqual(len(lines), 400, path)
            self.assertLessEqual(max(len(line) for line in lines), 120, path)
            for node in nodes_of(path):
                if isinstance(node, ast.FunctionDef):
                    self.assertLessEqual(node.end_lineno - node.lineno + 1, 40, (path, node.name))

    def test_statements_and_expressions(self):
        for path in FILES:
            for node in nodes_of(path):
                place = (path, getattr(node, "lineno", 0), type(node).__name__)
                self.assertIn(type(node).__name__, NODES, place)
                if isinstance(node, ast.Assign):
                    self.assertEqual(len(node.targets), 1, place)
                if isinstance(node, ast.comprehension):
                    self.assertLessEqual(len(node.ifs), 1, place)
                if isinstance(node, ast.ListComp):
                    self.assertEqual(len(node.generators), 1, place)
                if isinstance(node, (ast.For, ast.While)):
                    self.assertEqual(node.orelse, [], place)
                if isinstance(node, (ast.FunctionDef, ast.ClassDef)):
                    self.assertEqual(node.decorator_list, [], place)
                if isinstance(node, ast.Constant):
                    self.assertIn(type(node.value), (int, str, bool, type(None)), place)

    def test_imports(self):
        for path in FILES:
            for node in nodes_of(path):
                self.assertNotIsInstance(node, ast.Import, path)
                if isinstance(node, ast.ImportFrom):
                    self.assertEqual(node.level, 0, path)
                    drawn = PACKAGE.parent.joinpath(*node.module.split(".")).with_suffix(".py")
                    self.assertIn(drawn, FILES, path)
                    tops = ast.parse(drawn.read_text()).body
                    defined = bound_names([part for part in tops if not isinstance(part, ast.Assign)])
                    defined |= {part.targets[0].id for part in tops if isinstance(part, ast.Assign)}
                    for drawn_name in node.names:
                        self.assertIn(drawn_name.name, defined, path)

    def test_names(self):
        for path in FILES:
            nodes = nodes_of(path)
            bound = bound_names(nodes)
            for name in bound - {"__init__"}:
                self.assertFalse(name.startswith("_"), (path, name))
                self.assertNotIn(name, dir(__builtins__) if not isinstance(__builtins__, dict) else __builtins__)
            for node in nodes:
                if isinstance(node, ast.Name) and isinstance(node.ctx, ast.Load):
                    self.assertIn(node.id, bound | set(OWN_OF_PYTHON), (path, node.lineno))

    def test_attributes(self):
        own = own_methods() | own_values()
        for path in FILES:
            for node in nodes_of(path):
                if isinstance(node, ast.Attribute):
                    self.assertIn(node.attr, own | set(METHODS_OF_PYTHON), (path, node.lineno))

    def test_own_attributes_are_free(self):
        for name in (own_methods() | own_values()) - {"__init__"}:
            for kind in (str, int, list, tuple, dict, set, frozenset, bytes, range, slice):
                self.assertFalse(hasattr(kind, name), name)

    def test_no_name_is_a_method_here_and_a_value_there(self):
        self.assertEqual(own_methods() & own_values(), set())

    def test_words(self):
        for path in FILES:
            text = path.read_text(encoding="ascii")
            for word in WORDS_NOWHERE:
                self.assertIsNone(re.search(rf"\b{word}\b", text), (path, word))
            for part in ("dataclass", "overload", "contextmanager"):
                self.assertNotIn(part, text, path)


if __name__ == "__main__":
    unittest.main()
