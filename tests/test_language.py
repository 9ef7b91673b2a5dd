"""The package's files keep to those rules of the project's language that a search can see."""

import ast
import builtins
import pathlib
import re
import unittest

ROOT = pathlib.Path(__file__).resolve().parent.parent
PACKAGE = "pipecrew"

MOST_LINES_OF_A_FILE = 399
MOST_LINES_OF_A_FUNCTION = 40
MOST_SIGNS_OF_A_LINE = 120

STATEMENTS = (
    ast.Assign, ast.AugAssign, ast.AnnAssign, ast.If, ast.While, ast.For, ast.Return, ast.Break, ast.Continue,
    ast.Pass, ast.Raise, ast.Try, ast.Expr, ast.FunctionDef, ast.ClassDef, ast.ImportFrom,
)
NOT_WRITTEN = (
    ast.SetComp, ast.DictComp, ast.GeneratorExp, ast.NamedExpr, ast.Starred, ast.Await, ast.Yield, ast.YieldFrom,
    ast.Div, ast.MatMult, ast.Delete, ast.With, ast.Global, ast.Nonlocal, ast.Assert,
)
OWN_NAMES_OF_PYTHON = set(
    "len range enumerate zip min max sum abs sorted reversed int str bool list tuple dict set frozenset isinstance ord"
    " repr any all divmod Exception ValueError TypeError KeyError IndexError LookupError ZeroDivisionError"
    " ArithmeticError OverflowError RuntimeError NotImplementedError AttributeError StopIteration".split()
)
WORDS_NOWHERE = (
    r"\b(type|typing|typing_extensions|enum|Enum|IntEnum|StrEnum|Flag|IntFlag|Generic|Protocol|ABC|ABCMeta|namedtuple"
    r"|NamedTuple|TypedDict|TYPE_CHECKING|abstractmethod)\b|dataclass|overload|contextmanager"
)
NAMES_NOT_USED = set(
    "register mro elements open input version_info with_traceback add_note attrgetter breakpoint builtins compile"
    " copyright credits delattr dir eval exec exit gc getattr globals hasattr help id importlib license locals"
    " methodcaller os quit setattr super vars sys format format_map".split()
)
METHODS = set(
    "append clear copy count endswith extend find get index insert isalnum isalpha isdigit islower isspace isupper"
    " items join keys ljust lower lstrip partition pop remove replace reverse rfind rjust rpartition rsplit rstrip"
    " setdefault split splitlines startswith strip update upper values zfill bit_length __init__".split()
)


def files():
    """Return the package's files with their texts."""
    return [(path, path.read_text(encoding="utf-8")) for path in sorted((ROOT / PACKAGE).glob("*.py"))]


def trees():
    """Return the package's files with their syntax trees."""
    return [(path, ast.parse(text)) for path, text in files()]


def nodes():
    """Return every node of every file."""
    return [(path, node) for path, tree in trees() for node in ast.walk(tree)]


def bound_names(node):
    """Return the names that a node binds."""
    if isinstance(node, ast.Name) and isinstance(node.ctx, ast.Store):
        return [node.id]
    if isinstance(node, (ast.FunctionDef, ast.ClassDef)):
        return [node.name]
    if isinstance(node, ast.arg):
        return [node.arg]
    if isinstance(node, ast.ExceptHandler) and node.name:
        return [node.name]
    if isinstance(node, ast.Attribute) and isinstance(node.ctx, ast.Store):
        return [node.attr]
    return []


class Files(unittest.TestCase):
    def test_nothing_else_lies_in_the_package(self):
        for path in (ROOT / PACKAGE).iterdir():
            if path.name != "__pycache__":
                with self.subTest(path=path.name):
                    self.assertRegex(path.name, r"\A([a-z][a-z0-9_]*|__init__|__main__)\.py\Z")

    def test_sizes_and_signs(self):
        for path, text in files():
            lines = text.split("\n")
            with self.subTest(path=path.name):
                self.assertLessEqual(len(lines), MOST_LINES_OF_A_FILE)
                self.assertLessEqual(max(len(line) for line in lines), MOST_SIGNS_OF_A_LINE)
                self.assertRegex(text, r"\A[ -~\n]*\Z")

    def test_words_that_stand_nowhere(self):
        for path, text in files():
            with self.subTest(path=path.name):
                self.assertIsNone(re.search(WORDS_NOWHERE, text))

    def test_imports_are_the_packages_own_and_go_round_in_no_ring(self):
        drawn = {}
        for path, tree in trees():
            drawn[path.stem] = []
            for node in ast.walk(tree):
                self.assertNotIsInstance(node, ast.Import)
                if isinstance(node, ast.ImportFrom):
                    self.assertEqual(node.level, 0)
                    self.assertEqual(node.module.split(".")[0], PACKAGE)
                    self.assertIn(node, tree.body)
                    drawn[path.stem].append(node.module.split(".")[1])
        while drawn:
            free = [name for name in drawn if not any(other in drawn for other in drawn[name])]
            self.assertNotEqual(free, [], f"these draw from one another: {sorted(drawn)}")
            for name in free:
                del drawn[name]


class Code(unittest.TestCase):
    def test_statements_and_expressions(self):
        for path, node in nodes():
            with self.subTest(path=path.name, line=getattr(node, "lineno", 0)):
                self.assertNotIsInstance(node, NOT_WRITTEN)
                if isinstance(node, ast.stmt):
                    self.assertIsInstance(node, STATEMENTS)
                if isinstance(node, ast.Assign):
                    self.assertEqual(len(node.targets), 1)
                if isinstance(node, (ast.For, ast.While)):
                    self.assertEqual(node.orelse, [])
                if isinstance(node, ast.Try):
                    self.assertEqual(node.finalbody, [])
                    self.assertTrue(all(handler.type is not None for handler in node.handlers))
                if isinstance(node, ast.Constant):
                    self.assertIsInstance(node.value, (int, str, type(None)))

    def test_functions(self):
        for path, node in nodes():
            if isinstance(node, ast.FunctionDef):
                with self.subTest(path=path.name, function=node.name):
                    self.assertLessEqual(node.end_lineno - node.lineno + 1, MOST_LINES_OF_A_FUNCTION)
                    self.assertEqual(node.decorator_list, [])
                    self.assertIsNone(node.args.vararg)
                    self.assertIsNone(node.args.kwarg)
                    self.assertEqual(node.args.kwonlyargs, [])

    def test_names(self):
        for path, node in nodes():
            for name in bound_names(node):
                with self.subTest(path=path.name, name=name):
                    self.assertRegex(name, r"\A([A-Za-z][A-Za-z0-9_]*|__init__)\Z")
                    self.assertNotIn(name, NAMES_NOT_USED)
                    self.assertNotIn(name, dir(builtins))

    def test_pythons_own_names(self):
        for path, node in nodes():
            if isinstance(node, ast.Name) and isinstance(node.ctx, ast.Load) and node.id in dir(builtins):
                with self.subTest(path=path.name, line=node.lineno):
                    self.assertIn(node.id, OWN_NAMES_OF_PYTHON)

    def test_methods(self):
        own = set()
        for path, node in nodes():
            if isinstance(node, ast.ClassDef):
                own.update(part.name for part in node.body if isinstance(part, ast.FunctionDef))
        for path, node in nodes():
            if isinstance(node, ast.Call) and isinstance(node.func, ast.Attribute):
                with self.subTest(path=path.name, line=node.lineno):
                    self.assertIn(node.func.attr, METHODS | own)

    def test_the_interface_stands_in_its_file(self):
        places = []
        for path, tree in trees():
            for node in tree.body:
                if isinstance(node, (ast.FunctionDef, ast.ClassDef)) and node.name == "answers":
                    places.append(path.name)
                    self.assertEqual([argument.arg for argument in node.args.args], ["calls"])
                    self.assertEqual(node.args.defaults, [])
        self.assertEqual(places, ["desk.py"])


if __name__ == "__main__":
    unittest.main()
