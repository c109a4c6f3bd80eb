"""The package keeps to the small part of Python that it is written in, as far as a look at its files shows it."""

import ast
import builtins
import pathlib
import re
import unittest

PACKAGE = pathlib.Path(__file__).resolve().parent.parent / "ordersatonce"

NODES = """Module FunctionDef ClassDef arguments arg Return Assign AugAssign For While If Raise Try ExceptHandler
Expr Pass Break Continue ImportFrom alias BoolOp BinOp UnaryOp IfExp Dict ListComp comprehension Compare Call
Constant Attribute Subscript Name List Tuple Slice Load Store And Or Add Sub Mult FloorDiv Mod Pow LShift RShift
BitOr BitXor BitAnd Invert Not UAdd USub Eq NotEq Lt LtE Gt GtE Is IsNot In NotIn Lambda JoinedStr FormattedValue
keyword""".split()
OWN_NAMES = """len range enumerate zip min max sum abs sorted reversed int str bool list tuple dict set isinstance ord
repr any all divmod Exception ValueError TypeError KeyError IndexError LookupError ZeroDivisionError ArithmeticError
OverflowError RuntimeError NotImplementedError""".split()
METHODS = """append clear copy count endswith extend find get index insert isalnum isalpha isdigit islower isspace
isupper items join keys ljust lower lstrip partition pop remove replace reverse rfind rjust rpartition rsplit rstrip
setdefault split splitlines startswith strip update upper values zfill bit_length""".split()
UNUSED = """register mro elements open input version_info with_traceback add_note attrgetter builtins gc importlib
methodcaller os sys""".split()
UNDERSCORED = ("__init__", "__eq__", "__repr__", "__str__", "__len__")
WORDS = re.compile(
    r"\b(type|typing|typing_extensions|enum|Enum|IntEnum|StrEnum|Flag|IntFlag|Generic|Protocol|ABC|ABCMeta|namedtuple"
    r"|NamedTuple|TypedDict|TYPE_CHECKING|abstractmethod)\b"
    r"|dataclass|overload|contextmanager"
)


def sources():
    return {path: path.read_text("utf-8") for path in sorted(PACKAGE.glob("*.py"))}


def trees():
    for path, text in sources().items():
        yield path.name, ast.parse(text)


def bound_names(tree):
    for node in ast.walk(tree):
        if isinstance(node, (ast.FunctionDef, ast.ClassDef)):
            yield node.name, node.lineno
        elif isinstance(node, ast.arg):
            yield node.arg, node.lineno
        elif isinstance(node, (ast.Name, ast.Attribute)) and isinstance(node.ctx, ast.Store):
            yield node.id if isinstance(node, ast.Name) else node.attr, node.lineno


def imported(tree):
    return [alias.name for node in tree.body if isinstance(node, ast.ImportFrom) for alias in node.names]


def top_names(tree, imports=True):
    """The names that are bound at a file's top."""
    found = imported(tree) if imports else []
    for node in tree.body:
        if isinstance(node, (ast.FunctionDef, ast.ClassDef)):
            found.append(node.name)
        elif isinstance(node, ast.Assign):
            found.append(node.targets[0].id)
    return found


def plain(node, functions, within=False):
    """A plain value: a whole number, a text, or a list, tuple or dict of these and of functions defined above."""
    if isinstance(node, ast.Constant):
        return True
    if isinstance(node, ast.UnaryOp):
        return isinstance(node.op, ast.USub) and isinstance(node.operand, ast.Constant)
    if isinstance(node, ast.Name):
        return within and node.id in functions
    if isinstance(node, ast.Tuple):
        return all(plain(part, functions, True) for part in node.elts)
    if within:
        return False
    if isinstance(node, ast.List):
        return all(plain(part, functions, True) for part in node.elts)
    return isinstance(node, ast.Dict) and all(plain(part, functions, True) for part in [*node.keys, *node.values])


class Files(unittest.TestCase):
    def test_only_plain_files(self):
        for path in PACKAGE.iterdir():
            if path.name != "__pycache__":
                self.assertRegex(path.name, r"^([a-z][a-z0-9_]*|__init__)\.py$")
        self.assertIn("__init__.py", [path.name for path in PACKAGE.iterdir()])

    def test_signs_words_and_sizes(self):
        for path, text in sources().items():
            lines = text.split("\n")
            self.assertLessEqual(len(lines), 400, path.name)
            for number, line in enumerate(lines, start=1):
                with self.subTest(file=path.name, line=number):
                    self.assertRegex(line, r"^[ -~]{0,120}$")
                    self.assertIsNone(WORDS.search(line))


class Code(unittest.TestCase):
    def test_only_these_forms(self):
        for name, tree in trees():
            for node in ast.walk(tree):
                with self.subTest(file=name, line=getattr(node, "lineno", 0)):
                    self.assertIn(type(node).__name__, NODES)
                    self.assertFalse(getattr(node, "decorator_list", []))
                    self.assertFalse(isinstance(node, (ast.For, ast.While)) and node.orelse)
                    self.assertFalse(isinstance(node, ast.Try) and node.finalbody)
                    self.assertFalse(isinstance(node, ast.Assign) and len(node.targets) != 1)
                    self.assertFalse(isinstance(node, ast.Constant) and isinstance(node.value, (float, bytes)))
                    if isinstance(node, ast.FunctionDef):
                        self.assertLessEqual(node.end_lineno - node.lineno + 1, 40)
                        self.assertFalse(node.args.vararg or node.args.kwarg or node.args.kwonlyargs)

    def test_imports_are_the_packages_own(self):
        files = {f"ordersatonce.{path.stem}" for path in sources()}
        for name, tree in trees():
            for node in ast.walk(tree):
                if isinstance(node, ast.ImportFrom):
                    self.assertIn(node.module, files, name)
                    self.assertIn(node, tree.body, name)
                    self.assertNotIn("*", [alias.name for alias in node.names], name)

    def test_names(self):
        for name, tree in trees():
            for bound, line in bound_names(tree):
                with self.subTest(file=name, line=line, name=bound):
                    if bound not in UNDERSCORED:
                        self.assertRegex(bound, r"^[A-Za-z][A-Za-z0-9_]*$")
                        self.assertFalse(hasattr(builtins, bound))
                    self.assertNotIn(bound, UNUSED)
            for node in ast.walk(tree):
                if isinstance(node, ast.Name) and hasattr(builtins, node.id):
                    self.assertIn(node.id, OWN_NAMES, f"{name}:{node.lineno}")

    def test_methods(self):
        own = [node.name for name, tree in trees() for node in ast.walk(tree) if isinstance(node, ast.FunctionDef)]
        for name, tree in trees():
            for node in ast.walk(tree):
                if isinstance(node, ast.Call) and isinstance(node.func, ast.Attribute):
                    self.assertIn(node.func.attr, METHODS + own, f"{name}:{node.lineno}")

    def test_the_top_of_a_file(self):
        for name, tree in trees():
            self.assertIsNotNone(ast.get_docstring(tree), name)
            functions = []
            for node in tree.body[1:]:
                with self.subTest(file=name, line=node.lineno):
                    self.assertIsInstance(node, (ast.ImportFrom, ast.FunctionDef, ast.ClassDef, ast.Assign))
                    if isinstance(node, ast.FunctionDef):
                        functions.append(node.name)
                    if isinstance(node, ast.Assign):
                        self.assertTrue(plain(node.value, functions))

    def test_each_name_once_at_the_top(self):
        for name, tree in trees():
            found = top_names(tree)
            self.assertEqual(sorted(found), sorted(set(found)), name)

    def test_nothing_at_the_top_is_changed(self):
        for name, tree in trees():
            tops = [node.targets[0].id for node in tree.body if isinstance(node, ast.Assign)]
            for node in ast.walk(tree):
                if isinstance(node, ast.Call) and isinstance(node.func, ast.Attribute):
                    if isinstance(node.func.value, ast.Name) and node.func.value.id in tops:
                        self.assertIn(node.func.attr, ("get", "items", "keys", "values"), f"{name}:{node.lineno}")
                if isinstance(node, ast.Subscript) and isinstance(node.ctx, ast.Store):
                    self.assertFalse(isinstance(node.value, ast.Name) and node.value.id in tops, f"{name}:{node.lineno}")

    def test_no_local_is_called_like_a_class_or_an_import(self):
        for name, tree in trees():
            taken = imported(tree) + [node.name for node in tree.body if isinstance(node, ast.ClassDef)]
            for node in ast.walk(tree):
                if isinstance(node, ast.arg):
                    self.assertNotIn(node.arg, taken, f"{name}:{node.lineno}")
                if isinstance(node, ast.Name) and isinstance(node.ctx, ast.Store):
                    self.assertNotIn(node.id, taken, f"{name}:{node.lineno}")

    def test_an_import_is_from_the_file_that_defines_the_name(self):
        tops = {name[:-3]: top_names(tree, imports=False) for name, tree in trees()}
        for name, tree in trees():
            for node in tree.body:
                if isinstance(node, ast.ImportFrom):
                    for alias in node.names:
                        self.assertIsNone(alias.asname, name)
                        self.assertIn(alias.name, tops[node.module.split(".")[1]], name)

    def test_what_is_imported_is_used(self):
        for name, tree in trees():
            used = [node.id for node in ast.walk(tree) if isinstance(node, ast.Name)]
            for taken in imported(tree):
                self.assertIn(taken, used, name)

    def test_no_two_files_draw_from_one_another(self):
        drawn = {}
        for name, tree in trees():
            modules = [node.module for node in tree.body if isinstance(node, ast.ImportFrom)]
            drawn[name[:-3]] = {module.split(".")[1] for module in modules}
        self.assertEqual(drawn["__init__"], set())
        while drawn:
            free = [name for name in drawn if not drawn[name] & set(drawn)]
            self.assertTrue(free, sorted(drawn))
            drawn = {name: drawn[name] for name in drawn if name not in free}

    def test_no_name_is_a_method_and_a_value(self):
        methods = set()
        values = set()
        for name, tree in trees():
            for node in ast.walk(tree):
                if isinstance(node, ast.ClassDef):
                    methods |= {part.name for part in node.body if isinstance(part, ast.FunctionDef)}
                if isinstance(node, ast.Attribute) and isinstance(node.ctx, ast.Store):
                    values.add(node.attr)
        self.assertEqual(methods & values, set())
        for value in values:
            self.assertFalse([kind for kind in (str, int, list, dict, set, bytes) if hasattr(kind, value)], value)

    def test_is_stands_beside_none_true_and_false_alone(self):
        for name, tree in trees():
            for node in ast.walk(tree):
                if isinstance(node, ast.Compare):
                    for sign, right in zip(node.ops, node.comparators):
                        if isinstance(sign, (ast.Is, ast.IsNot)):
                            self.assertIsInstance(right, ast.Constant, f"{name}:{node.lineno}")


if __name__ == "__main__":
    unittest.main()
