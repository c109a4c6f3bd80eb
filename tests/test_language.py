"""The package keeps to the small part of Python that it is written in, as far as a look at its files shows it."""

import ast
import builtins
import pathlib
import re
import unittest

PACKAGE = pathlib.Path(__file__).resolve().parent.parent / "ordersatonce"

NODES = """Module FunctionDef ClassDef arguments arg Return Assign AugAssign For While If Raise Try ExceptHandler
Expr Pass Break Continue ImportFrom alias BoolOp BinOp UnaryOp IfExp Dict ListComp comprehension Compare Call
Constant Attribute Subscript Name List Tuple Slice Load Store And Or Add Sub Mult FloorDiv Mod Pow LShift RShift
BitOr BitXor BitAnd Invert Not UAdd USub Eq NotEq Lt LtE Gt GtE Is IsNot In NotIn Lambda JoinedStr FormattedValue
keyword""".split()
OWN_NAMES = """len range enumerate zip min max sum abs sorted reversed int str bool list tuple dict set isinstance ord
repr any all divmod Exception ValueError TypeError KeyError IndexError LookupError ZeroDivisionError ArithmeticError
OverflowError RuntimeError NotImplementedError""".split()
METHODS = """append clear copy count endswith extend find get index insert isalnum isalpha isdigit islower isspace
isupper items join keys ljust lower lstrip partition pop remove replace reverse rfind rjust rpartition rsplit rstrip
setdefault split splitlines startswith strip update upper values zfill bit_length""".split()
UNUSED = """register mro elements open input version_info with_traceback add_note attrgetter builtins gc importlib
methodcaller os sys""".split()
UNDERSCORED = ("__init__", "__eq__", "__repr__", "__str__", "__len__")
WORDS = re.compile(
    r"\b(type|typing|typing_extensions|enum|Enum|IntEnum|StrEnum|Flag|IntFlag|Generic|Protocol|ABC|ABCMeta|namedtuple"
    r"|NamedTuple|TypedDict|TYPE_CHECKING|abstractmethod)\b"
    r"|dataclass|overload|contextmanager"
)


def sources():
    return {path: path.read_text("utf-8") for path in sorted(PACKAGE.glob("*.py"))}


def trees():
    for path, text in sources().items():
        yield path.name, ast.parse(text)


def bound_names(tree):
    for node in ast.walk(tree):
        if isinstance(node, (ast.FunctionDef, ast.ClassDef)):
            yield node.name, node.lineno
        elif isinstance(node, ast.arg):
            yield node.arg, node.lineno
        elif isinstance(node, (ast.Name, ast.Attribute)) and isinstance(node.ctx, ast.Store):
            yield node.id if isinstance(node, ast.Name) else node.attr, node.lineno


class Files(unittest.TestCase):
    def test_only_plain_files(self):
        for path in PACKAGE.iterdir():
            if path.name != "__pycache__":
                self.assertRegex(path.name, r"^([a-z][a-z0-9_]*|__init__)\.py$")
        self.assertIn("__init__.py", [path.name for path in PACKAGE.iterdir()])

    def test_signs_words_and_sizes(self):
        for path, text in sources().items():
            lines = text.split("\n")
            self.assertLessEqual(len(lines), 400, path.name)
            for number, line in enumerate(lines, start=1):
                with self.subTest(file=path.name, line=number):
                    self.assertRegex(line, r"^[ -~]{0,120}$")
                    self.assertIsNone(WORDS.search(line))


class Code(unittest.TestCase):
    def test_only_these_forms(self):
        for name, tree in trees():
            for node in ast.walk(tree):
                with self.subTest(file=name, line=getattr(node, "lineno", 0)):
                    self.assertIn(type(node).__name__, NODES)
                    self.assertFalse(getattr(node, "decorator_list", []))
                    self.assertFalse(isinstance(node, (ast.For, ast.While)) and node.orelse)
                    self.assertFalse(isinstance(node, ast.Try) and node.finalbody)
                    self.assertFalse(isinstance(node, ast.Assign) and len(node.targets) != 1)
                    self.assertFalse(isinstance(node, ast.Constant) and isinstance(node.value, (float, bytes)))
                    if isinstance(node, ast.FunctionDef):
                        self.assertLessEqual(node.end_lineno - node.lineno + 1, 40)
                        self.assertFalse(node.args.vararg or node.args.kwarg or node.args.kwonlyargs)

    def test_imports_are_the_packages_own(self):
        files = {f"ordersatonce.{path.stem}" for path in sources()}
        for name, tree in trees():
            for node in ast.walk(tree):
                if isinstance(node, ast.ImportFrom):
                    self.assertIn(node.module, files, name)
                    self.assertIn(node, tree.body, name)
                    self.assertNotIn("*", [alias.name for alias in node.names], name)

    def test_names(self):
        for name, tree in trees():
            for bound, line in bound_names(tree):
                with self.subTest(file=name, line=line, name=bound):
                    if bound not in UNDERSCORED:
                        self.assertRegex(bound, r"^[A-Za-z][A-Za-z0-9_]*$")
                        self.assertFalse(hasattr(builtins, bound))
                    self.assertNotIn(bound, UNUSED)
            for node in ast.walk(tree):
                if isinstance(node, ast.Name) and hasattr(builtins, node.id):
                    self.assertIn(node.id, OWN_NAMES, f"{name}:{node.lineno}")

    def test_methods(self):
        own = [node.name for name, tree in trees() for node in ast.walk(tree) if isinstance(node, ast.FunctionDef)]
        for name, tree in trees():
            for node in ast.walk(tree):
                if isinstance(node, ast.Call) and isinstance(node.func, ast.Attribute):
                    self.assertIn(node.func.attr, METHODS + own, f"{name}:{node.lineno}")


if __name__ == "__main__":
    unittest.main()
