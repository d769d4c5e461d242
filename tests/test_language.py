"""The package keeps to the part of Python that it is written in (the rules that can be seen in the text)."""

import ast
import builtins
import re
import unittest
from pathlib import Path

PACKAGE = Path(__file__).resolve().parent.parent / "rootrows"
FILES = sorted(PACKAGE.rglob("*.py"))

NODES = set("""
    Module FunctionDef ClassDef arguments arg Lambda Return Assign AugAssign If While For Break Continue Pass Raise
    Try ExceptHandler Expr ImportFrom alias Constant List Tuple Dict Set BinOp UnaryOp BoolOp Compare IfExp Call keyword
    Attribute Subscript Slice ListComp comprehension JoinedStr FormattedValue Name Load Store Add Sub Mult FloorDiv Mod
    Pow LShift RShift BitAnd BitOr BitXor Invert USub UAdd Not And Or Eq NotEq Lt LtE Gt GtE Is IsNot In NotIn
""".split())

OWN_NAMES = set("""
    len range enumerate zip min max sum abs sorted reversed int str bool list tuple dict set frozenset isinstance ord
    repr any all divmod Exception ValueError TypeError KeyError IndexError LookupError ZeroDivisionError
    ArithmeticError OverflowError RuntimeError NotImplementedError AttributeError StopIteration
""".split())

METHODS = set("""
    append clear copy count endswith extend find get index insert isalnum isalpha isdigit islower isspace isupper items
    join keys ljust lower lstrip partition pop remove replace reverse rfind rjust rpartition rsplit rstrip setdefault
    split splitlines startswith strip update upper values zfill bit_length
""".split())

WORDS_OUT = re.compile(
    r"\b(type|typing|typing_extensions|enum|Enum|IntEnum|StrEnum|Flag|IntFlag|Generic|Protocol|ABC|ABCMeta|namedtuple"
    r"|NamedTuple|TypedDict|TYPE_CHECKING|abstractmethod)\b|dataclass|overload|contextmanager")

NAMES_OUT = set("register mro elements open input version_info with_traceback add_note format format_map".split())

# Not to be used as names, though a value of an object may be called so.
NOT_AS_NAMES = set("""
    attrgetter breakpoint builtins compile copyright credits delattr dir eval exec exit gc getattr globals hasattr help
    id importlib license locals methodcaller os quit setattr super type vars sys
""".split())

WALKED = set("zip enumerate reversed range".split())
WALKED_METHODS = set("items keys values".split())
WALKERS = set("list tuple dict sorted sum any all enumerate zip".split())


def tree_of(path):
    return ast.parse(path.read_text(encoding="utf-8"))


def bound_names(tree):
    """All names that the file itself gives to something."""
    found = set()
    for node in ast.walk(tree):
        if isinstance(node, (ast.FunctionDef, ast.ClassDef)):
            found.add(node.name)
        elif isinstance(node, ast.arg):
            found.add(node.arg)
        elif isinstance(node, ast.Name) and isinstance(node.ctx, ast.Store):
            found.add(node.id)
        elif isinstance(node, ast.Attribute) and isinstance(node.ctx, ast.Store):
            found.add(node.attr)
        elif isinstance(node, ast.alias):
            found.add(node.asname or node.name)
        elif isinstance(node, ast.ExceptHandler) and node.name:
            found.add(node.name)
    return found


class LanguageTest(unittest.TestCase):

    def test_files(self):
        self.assertIn(PACKAGE / "__init__.py", FILES)
        self.assertIn(PACKAGE / "numbers.py", FILES)
        for path in PACKAGE.rglob("*"):
            if "__pycache__" not in path.parts and path.is_file():
                self.assertRegex(path.name, r"^([a-z][a-z0-9_]*|__init__|__main__)\.py$")

    def test_signs_and_sizes(self):
        for path in FILES:
            with self.subTest(file=path.name):
                tree = tree_of(path)
                text = path.read_text(encoding="utf-8")
                self.assertRegex(text, r"\A[ -~\n]*\Z")
                self.assertLessEqual(len(text.splitlines()), 400)
                self.assertLessEqual(max(map(len, text.splitlines())), 120)
                self.assertIsNone(WORDS_OUT.search(text))
                for node in ast.walk(tree):
                    if isinstance(node, ast.FunctionDef):
                        self.assertLessEqual(node.end_lineno - node.lineno + 1, 40, node.name)

    def test_forms(self):
        for path in FILES:
            with self.subTest(file=path.name):
                tree = tree_of(path)
                for node in ast.walk(tree):
                    self.assertIn(node.__class__.__name__, NODES)
                    if isinstance(node, ast.Assign):
                        self.assertEqual(len(node.targets), 1, node.lineno)
                    if isinstance(node, (ast.For, ast.While)):
                        self.assertEqual(node.orelse, [], node.lineno)
                    if isinstance(node, ast.Try):
                        self.assertEqual(node.finalbody, [], node.lineno)
                    if isinstance(node, (ast.FunctionDef, ast.ClassDef)):
                        self.assertEqual(node.decorator_list, [], node.lineno)
                    if isinstance(node, ast.arguments):
                        self.assertEqual((node.vararg, node.kwarg, node.kwonlyargs), (None, None, []))
                    if isinstance(node, ast.ListComp):
                        self.assertEqual(len(node.generators), 1, node.lineno)
                        self.assertLessEqual(len(node.generators[0].ifs), 1, node.lineno)
                    if isinstance(node, ast.Constant):
                        self.assertIsInstance(node.value, (int, str, bool, None.__class__))
                        self.assertNotIn("%", str(node.value))
                    if isinstance(node, ast.BinOp) and isinstance(node.op, ast.Pow):
                        self.assertIsInstance(node.right, ast.Constant)
                        self.assertIn(node.right.value, range(65))

    def test_names(self):
        # What one file gives to an object, another may take from it.
        everywhere = set().union(*[bound_names(tree_of(path)) for path in FILES])
        for path in FILES:
            with self.subTest(file=path.name):
                tree = tree_of(path)
                bound = bound_names(tree)
                self.assertEqual(bound & (OWN_NAMES | NAMES_OUT), set())
                for name in bound:
                    self.assertRegex(name, r"^([A-Za-z][A-Za-z0-9_]*|__(init|eq|repr|str|len|all|version)__)$")
                for node in ast.walk(tree):
                    if isinstance(node, ast.Name):
                        self.assertIn(node.id, bound | OWN_NAMES, node.lineno)
                    if isinstance(node, ast.Attribute):
                        self.assertIn(node.attr, everywhere | METHODS, node.lineno)

    def test_names_are_not_pythons_own(self):
        for path in FILES:
            with self.subTest(file=path.name):
                tree = tree_of(path)
                imports = {alias.name for node in tree.body if isinstance(node, ast.ImportFrom) for alias in node.names}
                classes = {node.name for node in tree.body if isinstance(node, ast.ClassDef)}
                for node in ast.walk(tree):
                    if isinstance(node, ast.Name):
                        self.assertNotIn(node.id, NOT_AS_NAMES, node.lineno)
                    if isinstance(node, ast.arg):
                        self.assertNotIn(node.arg, imports | classes | set(dir(builtins)), node.lineno)
                    if isinstance(node, ast.Name) and isinstance(node.ctx, ast.Store):
                        self.assertNotIn(node.id, imports | classes | set(dir(builtins)), node.lineno)

    def test_each_name_once_at_the_top(self):
        for path in FILES:
            with self.subTest(file=path.name):
                names = []
                for node in tree_of(path).body:
                    self.assertIsInstance(node, (ast.Expr, ast.ImportFrom, ast.FunctionDef, ast.ClassDef, ast.Assign))
                    if isinstance(node, ast.Assign):
                        names.append(node.targets[0].id)
                    elif isinstance(node, (ast.FunctionDef, ast.ClassDef)):
                        names.append(node.name)
                    elif isinstance(node, ast.ImportFrom):
                        names.extend(alias.name for alias in node.names)
                self.assertEqual(len(names), len(set(names)))

    def test_walked_at_once(self):
        for path in FILES:
            with self.subTest(file=path.name):
                tree = tree_of(path)
                allowed = set()
                for node in ast.walk(tree):
                    if isinstance(node, (ast.For, ast.comprehension)):
                        allowed.add(node.iter)
                    if isinstance(node, ast.Call) and isinstance(node.func, ast.Name) and node.func.id in WALKERS:
                        allowed.update(node.args[:1])
                for node in ast.walk(tree):
                    if isinstance(node, ast.Call) and node not in allowed:
                        if isinstance(node.func, ast.Name):
                            self.assertNotIn(node.func.id, WALKED, node.lineno)
                        if isinstance(node.func, ast.Attribute):
                            self.assertNotIn(node.func.attr, WALKED_METHODS, node.lineno)

    def test_is_stands_beside_none_true_false(self):
        for path in FILES:
            for node in ast.walk(tree_of(path)):
                if isinstance(node, ast.Compare) and isinstance(node.ops[0], (ast.Is, ast.IsNot)):
                    self.assertIsInstance(node.comparators[0], ast.Constant, (path.name, node.lineno))
                    self.assertIn(node.comparators[0].value, (None, True, False), (path.name, node.lineno))

    def test_no_two_files_draw_from_one_another(self):
        drawn = {path.stem: {node.module.split(".")[1] for node in tree_of(path).body
                             if isinstance(node, ast.ImportFrom)} for path in FILES}
        while drawn:
            free = [name for name in drawn if not drawn[name] & set(drawn)]
            self.assertTrue(free, drawn)
            for name in free:
                del drawn[name]

    def test_imports(self):
        for path in FILES:
            with self.subTest(file=path.name):
                tree = tree_of(path)
                for node in ast.walk(tree):
                    if isinstance(node, ast.ImportFrom):
                        self.assertEqual(node.level, 0)
                        self.assertIn(node, tree.body)
                        self.assertRegex(node.module, r"^rootrows\.[a-z0-9_]+$")
                        source = tree_of(PACKAGE / (node.module.split(".")[1] + ".py"))
                        own = [part for part in source.body if not isinstance(part, ast.ImportFrom)]
                        defined = bound_names(ast.Module(own, []))
                        for alias in node.names:
                            self.assertIn(alias.name, defined)


if __name__ == "__main__":
    unittest.main()
