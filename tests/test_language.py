"""The rules of the language that can be seen file by file; the numbers are those of LANGUAGE.md."""

import ast
import builtins
import pathlib
import re
import unittest

PACKAGE = pathlib.Path(__file__).resolve().parent.parent / "refereeplans"
FILES = sorted(path for path in PACKAGE.rglob("*") if "__pycache__" not in path.parts)

NODES = set("""
    Module Expr Constant Assign Name Load Store FunctionDef ClassDef arguments arg Lambda Return If While For Break
    Continue Pass Raise Try ExceptHandler Call keyword Attribute Subscript Slice List Tuple Dict ListComp comprehension
    BinOp Add Sub Mult FloorDiv Mod Pow BitAnd BitOr BitXor LShift RShift UnaryOp USub Not Invert BoolOp And Or Compare
    Eq NotEq Lt LtE Gt GtE In NotIn Is IsNot IfExp AugAssign JoinedStr FormattedValue Set ImportFrom alias
""".split())
OWN_NAMES = set("""
    len range enumerate zip min max sum abs sorted reversed int str bool list tuple dict set frozenset isinstance ord
    repr any all divmod Exception ValueError TypeError KeyError IndexError LookupError ZeroDivisionError
    ArithmeticError OverflowError RuntimeError NotImplementedError AttributeError StopIteration
""".split())
METHODS = set("""
    append clear copy count endswith extend find get index insert isalnum isalpha isdigit islower isspace isupper items
    join keys ljust lower lstrip partition pop remove replace reverse rfind rjust rpartition rsplit rstrip setdefault
    split splitlines startswith strip update upper values zfill bit_length
""".split())
SPECIAL = {"__init__", "__eq__", "__repr__", "__str__", "__len__"}
WORDS = re.compile(
    r"\b(type|typing|typing_extensions|enum|Enum|IntEnum|StrEnum|Flag|IntFlag|Generic|Protocol|ABC|ABCMeta|namedtuple"
    r"|NamedTuple|TypedDict|TYPE_CHECKING|abstractmethod)\b|dataclass|overload|contextmanager"
)


def nodes(tree, *kinds):
    return [node for node in ast.walk(tree) if isinstance(node, kinds)]


def is_call_of(node, *names):
    return isinstance(node, ast.Call) and isinstance(node.func, ast.Name) and node.func.id in names


def bound_names(tree):
    names = [node.name for node in nodes(tree, ast.FunctionDef, ast.ClassDef)]
    names += [node.arg for node in nodes(tree, ast.arg)]
    names += [node.id for node in nodes(tree, ast.Name) if isinstance(node.ctx, ast.Store)]
    return names


def each_file():
    for path in FILES:
        text = path.read_bytes().decode("utf-8")
        yield text, ast.parse(text, path.name)


class Language(unittest.TestCase):
    def test_l1_l14_files(self):
        self.assertIn(PACKAGE / "__init__.py", FILES)
        for path in FILES:
            self.assertTrue(path.is_file() and re.fullmatch(r"(__init__|[a-z][a-z0-9_]*)\.py", path.name), path)

    def test_l10_size(self):
        for text, tree in each_file():
            rows = text.split("\n")
            self.assertLessEqual(len(rows), 400)
            self.assertLessEqual(max(len(row) for row in rows), 120)
            for node in nodes(tree, ast.FunctionDef):
                self.assertLessEqual(node.end_lineno - node.lineno + 1, 40, node.name)

    def test_l14_signs(self):
        for text, tree in each_file():
            self.assertEqual([sign for sign in text if sign != "\n" and not " " <= sign <= "~"], [])

    def test_l17_words(self):
        for text, tree in each_file():
            self.assertIsNone(WORDS.search(text))

    def test_l6_l7_forms(self):
        for text, tree in each_file():
            self.assertEqual({node.__class__.__name__ for node in ast.walk(tree)} - NODES, set())
            self.assertEqual([node for node in nodes(tree, ast.For, ast.While) if node.orelse], [])
            self.assertEqual([node for node in nodes(tree, ast.Assign) if len(node.targets) > 1], [])

    def test_l7_comprehensions(self):
        for text, tree in each_file():
            for node in nodes(tree, ast.ListComp):
                self.assertEqual(len(node.generators), 1)
                self.assertLessEqual(len(node.generators[0].ifs), 1)

    def test_l24_sets(self):
        for text, tree in each_file():
            within = [node.args[0] for node in nodes(tree, ast.Call) if node.args and is_call_of(node, "len", "sorted")]
            made = [node for node in nodes(tree, ast.Call) if is_call_of(node, "set")]
            self.assertEqual([node for node in made if node not in within], [])
            self.assertEqual(nodes(tree, ast.Set), [])

    def test_l18_l26_methods_and_values(self):
        trees = [tree for text, tree in each_file()]
        classes = [own for tree in trees for own in nodes(tree, ast.ClassDef)]
        methods = {node.name for own in classes for node in nodes(own, ast.FunctionDef)}
        values = {node.attr for tree in trees for node in nodes(tree, ast.Attribute) if isinstance(node.ctx, ast.Store)}
        self.assertEqual(methods & values, set())
        taken = {name for kind in (str, int, list, tuple, dict, set, bytes) for name in dir(kind)}
        self.assertEqual((methods | values) & taken - SPECIAL, set())

    def test_l8_l12_names(self):
        for text, tree in each_file():
            bound = bound_names(tree)
            self.assertEqual([name for name in bound if name.startswith("_") and name not in SPECIAL], [])
            self.assertEqual([name for name in bound if name in dir(builtins)], [])
            read = {node.id for node in nodes(tree, ast.Name)}
            self.assertEqual(read - set(bound) - OWN_NAMES, set())

    def test_l25_methods(self):
        for text, tree in each_file():
            called = {node.func.attr for node in nodes(tree, ast.Call) if isinstance(node.func, ast.Attribute)}
            self.assertEqual(called - set(bound_names(tree)) - METHODS, set())

    def test_l15_each_name_once_at_the_top(self):
        for text, tree in each_file():
            names = [node.name for node in tree.body if isinstance(node, (ast.FunctionDef, ast.ClassDef))]
            names += [node.targets[0].id for node in tree.body if isinstance(node, ast.Assign)]
            self.assertEqual(len(names), len(set(names)))


if __name__ == "__main__":
    unittest.main()
