"""The package keeps to its small part of Python (the rules L1 to L28, as far as they are easily seen)."""

import ast
import builtins
import pathlib
import re
import unittest

PACKAGE = pathlib.Path(__file__).resolve().parent.parent / "twowants"
FILES = sorted(PACKAGE.glob("**/*.py"))

NODES = """
Module FunctionDef arguments arg ClassDef Lambda Expr Assign AugAssign If While For Return Break Continue Pass
Raise Try ExceptHandler ImportFrom alias keyword
Constant Name Attribute Subscript Slice Call List Tuple Dict ListComp comprehension IfExp JoinedStr FormattedValue
BoolOp And Or UnaryOp Not USub BinOp Add Sub Mult FloorDiv Mod Pow BitAnd BitOr BitXor LShift RShift
Compare Eq NotEq Lt LtE Gt GtE In NotIn Is IsNot Load Store
""".split()

OWN_OF_PYTHON = """
len range enumerate zip min max sum abs sorted reversed int str bool list tuple dict set frozenset isinstance ord
repr any all divmod Exception ValueError TypeError KeyError IndexError LookupError ZeroDivisionError
ArithmeticError OverflowError RuntimeError NotImplementedError AttributeError StopIteration
""".split()

METHODS = """
append clear copy count endswith extend find get index insert isalnum isalpha isdigit islower isspace isupper items
join keys ljust lower lstrip partition pop remove replace reverse rfind rjust rpartition rsplit rstrip setdefault
split splitlines startswith strip update upper values zfill bit_length
""".split()

WORDS = re.compile(
    r"\b(type|typing|typing_extensions|enum|Enum|IntEnum|StrEnum|Flag|IntFlag|Generic|Protocol|ABC|ABCMeta"
    r"|namedtuple|NamedTuple|TypedDict|TYPE_CHECKING|abstractmethod)\b|dataclass|overload|contextmanager"
)

UNUSED = """
register mro elements open input version_info with_traceback add_note attrgetter breakpoint builtins compile
copyright credits delattr dir eval exec exit gc getattr globals hasattr help id importlib license locals methodcaller
os quit setattr super vars sys format format_map
""".split()


def trees():
    return [(path.name, ast.parse(path.read_text("utf-8"))) for path in FILES]


def nodes(kind):
    return [(name, node) for name, tree in trees() for node in ast.walk(tree) if isinstance(node, kind)]


def names_bound(tree):
    """Every name that a file gives a meaning: defs, classes, parameters, locals."""
    found = []
    for node in ast.walk(tree):
        if isinstance(node, (ast.FunctionDef, ast.ClassDef)):
            found.append(node.name)
        elif isinstance(node, ast.arg):
            found.append(node.arg)
        elif isinstance(node, ast.Name) and isinstance(node.ctx, ast.Store):
            found.append(node.id)
    return found


class Form(unittest.TestCase):
    def test_files(self):
        self.assertIn(PACKAGE / "signs.py", FILES)
        for path in PACKAGE.iterdir():
            if path.name != "__pycache__":
                self.assertRegex(path.name, r"\A([a-z][a-z0-9_]*|__init__|__main__)\.py\Z")
                self.assertFalse(path.stem in dir(builtins) or path.stem.startswith("test"), path)

    def test_size_and_signs(self):
        for path in FILES:
            rows = path.read_text("utf-8").split("\n")
            self.assertLessEqual(len(rows), 399, path)
            for number, row in enumerate(rows, 1):
                self.assertRegex(row, r"\A[ -~]{0,120}\Z", (path, number))
                self.assertIsNone(WORDS.search(row), (path, number))
        for name, node in nodes(ast.FunctionDef):
            self.assertLessEqual(node.end_lineno - node.lineno + 1, 40, (name, node.name))

    def test_nodes(self):
        for name, node in nodes(ast.AST):
            self.assertIn(node.__class__.__name__, NODES, (name, getattr(node, "lineno", 0)))

    def test_imports(self):
        tops = {
            "twowants." + name[:-3]: [getattr(node, "name", "") for node in tree.body] for name, tree in trees()
        }
        for name, tree in trees():
            for node in ast.walk(tree):
                if isinstance(node, ast.ImportFrom):
                    self.assertIn(node, tree.body, name)
                    self.assertEqual(node.level, 0, name)
                    for drawn in node.names:
                        self.assertIn(drawn.name, tops[node.module], name)

    def test_the_interface_is_in_its_file_alone(self):
        found = [name for name, tree in trees() for node in tree.body if getattr(node, "name", "") == "answers"]
        self.assertEqual(found, ["signs.py"])

    def test_defs_are_plain(self):
        for name, node in nodes(ast.FunctionDef):
            given = node.args
            self.assertEqual(node.decorator_list + given.kwonlyargs + given.posonlyargs, [], (name, node.name))
            self.assertIsNone(given.vararg or given.kwarg or node.returns, (name, node.name))
            self.assertTrue(all(each.annotation is None for each in given.args), (name, node.name))
        for name, node in nodes(ast.ClassDef):
            self.assertTrue(all(isinstance(each, ast.FunctionDef) for each in node.body), (name, node.name))

    def test_names(self):
        for name, tree in trees():
            bound = names_bound(tree)
            for each in bound:
                self.assertRegex(each, r"\A([A-Za-z][A-Za-z0-9_]*|__init__)\Z", name)
                self.assertFalse(each in dir(builtins) or each in UNUSED, (name, each))
            tops = [node.name for node in tree.body if isinstance(node, (ast.FunctionDef, ast.ClassDef))]
            self.assertEqual(len(tops), len(set(tops)), name)

    def test_names_of_python(self):
        for name, node in nodes(ast.Name):
            if node.id in dir(builtins):
                self.assertIn(node.id, OWN_OF_PYTHON, (name, node.lineno))

    def test_methods_and_values(self):
        methods = [each.name for name, node in nodes(ast.ClassDef) for each in node.body]
        stored = [node.attr for name, node in nodes(ast.Attribute) if isinstance(node.ctx, ast.Store)]
        self.assertEqual(set(methods) & set(stored), set())
        for name, node in nodes(ast.Attribute):
            self.assertIn(node.attr, METHODS + methods + stored, (name, node.lineno))
            self.assertNotIn(node.attr, UNUSED, (name, node.lineno))

    def test_one_target_and_one_loop(self):
        for name, node in nodes(ast.Assign):
            self.assertEqual(len(node.targets), 1, (name, node.lineno))
        for name, node in nodes((ast.For, ast.While)):
            self.assertEqual(node.orelse, [], (name, node.lineno))
        for name, node in nodes(ast.ListComp):
            self.assertEqual(len(node.generators), 1, (name, node.lineno))
            self.assertLessEqual(len(node.generators[0].ifs), 1, (name, node.lineno))

    def test_values(self):
        for name, node in nodes(ast.Constant):
            self.assertIn(node.value.__class__, (int, str, bool, None.__class__), (name, node.lineno))
        for name, node in nodes(ast.Compare):
            for operator, right in zip(node.ops, node.comparators):
                if isinstance(operator, (ast.Is, ast.IsNot)):
                    self.assertIn(ast.unparse(right), ("None", "True", "False"), (name, node.lineno))
