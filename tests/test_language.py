"""The rules of the program's language that a short test can see; the numbers are those of the rules."""

import ast
import builtins
import pathlib
import re
import unittest

FOLDER = pathlib.Path(__file__).resolve().parent.parent / "eachsecond"
BUILTINS = set(
    "len range enumerate zip min max sum abs sorted reversed int str bool list tuple dict set isinstance ord repr "
    "any all divmod pow Exception ValueError TypeError KeyError IndexError LookupError ZeroDivisionError "
    "NotImplemented NotImplementedError RuntimeError".split())
METHODS = set("__init__ __eq__ __repr__ __str__ __len__ __iter__ __call__".split())
CALLED = set(
    "append clear copy count endswith extend find get index insert isalnum isalpha isdigit islower isspace isupper "
    "items join keys ljust lower lstrip partition pop remove replace reverse rfind rjust rpartition rsplit rstrip "
    "setdefault split splitlines startswith strip update upper values zfill bit_length isascii add discard".split())
LIBRARY = {"heapq": {"heappush", "heappop", "heapify"}, "math": {"gcd", "lcm", "isqrt"}}
NODES = set(
    "Module Import ImportFrom alias FunctionDef arguments arg ClassDef Return Assign AugAssign For While If Raise Try "
    "ExceptHandler Assert Delete Expr Pass Break Continue BoolOp And Or BinOp Add Sub Mult FloorDiv Mod Pow BitAnd "
    "BitOr BitXor LShift RShift UnaryOp Not USub Lambda IfExp Dict Set ListComp SetComp DictComp GeneratorExp "
    "comprehension Compare Eq NotEq Lt LtE Gt GtE Is IsNot In NotIn Call keyword FormattedValue JoinedStr Constant "
    "Attribute Subscript Starred Name List Tuple Slice Load Store Del".split())
BARRED = re.compile(
    r"\b(typing|typing_extensions|enum|Enum|IntEnum|StrEnum|Flag|IntFlag|Generic|Protocol|ABC|ABCMeta|namedtuple"
    r"|NamedTuple|TypedDict|TYPE_CHECKING|abstractmethod|_wall|_WallAttr)\b|dataclass|overload|contextmanager")


def trees():
    for path in sorted(FOLDER.rglob("*.py")):
        yield path.name, ast.parse(path.read_text("utf-8"))


def bound_names(node):
    """The names that a node binds."""
    if isinstance(node, ast.Name) and not isinstance(node.ctx, ast.Load):
        return [node.id]
    if isinstance(node, ast.arg):
        return [node.arg]
    if isinstance(node, (ast.FunctionDef, ast.ClassDef)):
        return [node.name]
    return []


class LanguageTest(unittest.TestCase):

    def test_files(self):
        """L1, L10, L14: plain files of plain characters, none too long."""
        for path in sorted(FOLDER.rglob("*")):
            if path.name == "__pycache__" or path.suffix == ".pyc":
                continue
            with self.subTest(path.name):
                self.assertTrue(path.is_file() and re.fullmatch(r"[a-z0-9_]+\.py", path.name))
                text = path.read_text("utf-8")
                self.assertLessEqual(len(text.splitlines()), 399)
                self.assertEqual([line for line in text.splitlines() if len(line) > 120], [])
                self.assertEqual(sorted(set(text) - set(map(chr, range(32, 127))) - {"\n"}), [])
                self.assertIsNone(BARRED.search(text))

    def test_functions(self):
        """L4, L5, L10, L21: at most 40 lines, no annotations, no decorators but a property's and static ones."""
        for name, tree in trees():
            for node in ast.walk(tree):
                if not isinstance(node, ast.FunctionDef):
                    continue
                with self.subTest(file=name, function=node.name):
                    self.assertLessEqual(node.end_lineno - node.lineno + 1, 40)
                    self.assertIsNone(node.returns)
                    self.assertEqual(node.decorator_list, [])
                    self.assertTrue(not node.name.startswith("__") or node.name in METHODS)

    def test_nodes(self):
        """L6, L7: no statement or expression but those that are allowed; no floats, no percent sign in strings."""
        for name, tree in trees():
            for node in ast.walk(tree):
                with self.subTest(file=name, line=getattr(node, "lineno", 0)):
                    self.assertIn(type(node).__name__, NODES)
                    if isinstance(node, ast.Constant):
                        self.assertIn(type(node.value), (int, str, bool, type(None)))
                        self.assertNotIn("%", str(node.value))

    def test_module_level(self):
        """L3, L15: a docstring, imports, functions, classes and plain values, each name bound once."""
        for name, tree in trees():
            self.assertIsNotNone(ast.get_docstring(tree), name)
            bound = []
            for node in tree.body[1:]:
                with self.subTest(file=name, line=node.lineno):
                    self.assertIsInstance(node, (ast.ImportFrom, ast.FunctionDef, ast.ClassDef, ast.Assign))
                if isinstance(node, ast.ImportFrom):
                    bound.extend(each.name for each in node.names)
                elif isinstance(node, ast.Assign):
                    self.assertEqual(len(node.targets), 1)
                    bound.append(node.targets[0].id)
                else:
                    bound.append(node.name)
            self.assertEqual(len(bound), len(set(bound)), name)

    def test_imports(self):
        """L2, L16: by full names, from the very files that define them."""
        defined = {}
        for name, tree in trees():
            targets = [each.targets[0] for each in tree.body if isinstance(each, ast.Assign)]
            defined[f"eachsecond.{name[:-3]}"] = {
                each for node in tree.body + targets for each in bound_names(node)}
        for name, tree in trees():
            for node in ast.walk(tree):
                self.assertNotIsInstance(node, ast.Import)
                if isinstance(node, ast.ImportFrom):
                    self.assertEqual(node.level, 0)
                    known = LIBRARY.get(node.module, defined.get(node.module, set()))
                    for each in node.names:
                        self.assertIsNone(each.asname)
                        self.assertIn(each.name, known, name)

    def test_methods(self):
        """L25: no other methods of builtin values are called, and none with keywords."""
        own = {each.name for _, tree in trees() for node in tree.body if isinstance(node, ast.ClassDef)
               for each in node.body if isinstance(each, ast.FunctionDef)}
        for name, tree in trees():
            for node in ast.walk(tree):
                if isinstance(node, ast.Call) and isinstance(node.func, ast.Attribute):
                    with self.subTest(file=name, line=node.lineno):
                        self.assertIn(node.func.attr, CALLED | own)
                        self.assertTrue(node.func.attr in own or not node.keywords)

    def test_powers_and_tests_of_identity(self):
        """L20, L27: exponents are literals; `is` stands with None, True and False."""
        for name, tree in trees():
            for node in ast.walk(tree):
                with self.subTest(file=name, line=getattr(node, "lineno", 0)):
                    if isinstance(node, ast.BinOp) and isinstance(node.op, ast.Pow):
                        self.assertIsInstance(node.right, ast.Constant)
                    if isinstance(node, ast.Compare) and isinstance(node.ops[0], (ast.Is, ast.IsNot)):
                        self.assertIsInstance(node.comparators[0], ast.Constant)

    def test_names(self):
        """L8, L15, L17: no other builtin is used, and no local name hides a builtin, a class or an import."""
        for name, tree in trees():
            taken = {each.name for node in tree.body if isinstance(node, ast.ImportFrom) for each in node.names}
            taken |= {node.name for node in tree.body if isinstance(node, ast.ClassDef)}
            for node in ast.walk(tree):
                with self.subTest(file=name, line=getattr(node, "lineno", 0)):
                    for each in bound_names(node):
                        self.assertTrue(each in METHODS or not hasattr(builtins, each), each)
                        self.assertTrue(isinstance(node, ast.ClassDef) or each not in taken, each)
                        self.assertTrue(each == "_" or each in METHODS or re.match("_?[A-Za-z]", each), each)
                    if isinstance(node, ast.Name) and hasattr(builtins, node.id):
                        self.assertIn(node.id, BUILTINS)


if __name__ == "__main__":
    unittest.main()
