"""The rules of the program's language that a short test can see; the numbers are those of the rules."""

import ast
import builtins
import pathlib
import re
import unittest

FOLDER = pathlib.Path(__file__).resolve().parent.parent / "eachsecond"
BUILTINS = set(
    "len range enumerate zip min max sum abs sorted reversed int str bool list tuple dict set isinstance ord repr "
    "any all divmod pow Exception ValueError TypeError KeyError IndexError LookupError ZeroDivisionError "
    "NotImplemented NotImplementedError RuntimeError".split())
METHODS = set("__init__ __eq__ __repr__ __str__ __len__ __iter__ __call__".split())
CALLED = set(
    "append clear copy count endswith extend find get index insert isalnum isalpha isdigit islower isspace isupper "
    "items join keys ljust lower lstrip partition pop remove replace reverse rfind rjust rpartition rsplit rstrip "
    "setdefault split splitlines startswith strip update upper values zfill bit_length isascii add discard".split())
LIBRARY = {"heapq": {"heappush", "heappop", "heapify"}, "math": {"gcd", "lcm", "isqrt"}}
NODES = set(
    "Module Import ImportFrom alias FunctionDef arguments arg ClassDef Return Assign AugAssign For While If Raise Try "
    "ExceptHandler Assert Delete Expr Pass Break Continue BoolOp And Or BinOp Add Sub Mult FloorDiv Mod Pow BitAnd "
    "BitOr BitXor LShift RShift UnaryOp Not USub Lambda IfExp Dict Set ListComp SetComp DictComp GeneratorExp "
    "comprehension Compare Eq NotEq Lt LtE Gt GtE Is IsNot In NotIn Call keyword FormattedValue JoinedStr Constant "
    "Attribute Subscript Starred Name List Tuple Slice Load Store Del".split())
BARRED = re.compile(
    r"\b(typing|typing_extensions|enum|Enum|IntEnum|StrEnum|Flag|IntFlag|Generic|Protocol|ABC|ABCMeta|namedtuple"
    r"|NamedTuple|TypedDict|TYPE_CHECKING|abstractmethod|_wall|_WallAttr)\b|dataclass|overload|contextmanager")


def trees():
    for path in sorted(FOLDER.rglob("*.py")):
        yield path.name, ast.parse(path.read_text("utf-8"))


CHANGING = set("append clear extend insert pop remove reverse setdefault update sort add discard".split())
HEAP = {"heappush", "heappop", "heapify", "heapreplace", "heappushpop"}


def walked(node):
    """What a loop goes over, as text: also through zip, items and the like, and each side of a choice."""
    if isinstance(node, ast.IfExp):
        return walked(node.body) | walked(node.orelse)
    if isinstance(node, ast.BoolOp):
        return set().union(*(walked(each) for each in node.values))
    if isinstance(node, ast.Call):
        function = node.func
        if isinstance(function, ast.Attribute) and function.attr in ("items", "keys", "values"):
            return walked(function.value)
        if isinstance(function, ast.Name) and function.id in ("enumerate", "zip", "reversed", "iter"):
            return set().union(*(walked(each) for each in node.args))
    if isinstance(node, (ast.Name, ast.Attribute, ast.Subscript)):
        return {ast.unparse(node)}
    return set()


def changed(node):
    """What a node changes, as text: the lists, dicts and sets of which it changes an item, or which it makes longer."""
    if isinstance(node, ast.Subscript) and not isinstance(node.ctx, ast.Load):
        return {ast.unparse(node.value)}
    if isinstance(node, ast.AugAssign):
        return {ast.unparse(node.target)}
    if isinstance(node, ast.Call) and isinstance(node.func, ast.Attribute) and node.func.attr in CHANGING:
        return {ast.unparse(node.func.value)}
    if isinstance(node, ast.Call) and isinstance(node.func, ast.Name) and node.func.id in HEAP and node.args:
        return {ast.unparse(node.args[0])}
    return set()


def changed_loops(tree):
    """Pairs (row, text) of what is changed in a loop or a comprehension that goes over it."""
    found = []
    for node in ast.walk(tree):
        if isinstance(node, ast.For):
            over, inner = walked(node.iter), [node.target] + node.body
        elif isinstance(node, (ast.ListComp, ast.SetComp, ast.DictComp, ast.GeneratorExp)):
            over, inner = set().union(*(walked(each.iter) for each in node.generators)), [node]
        else:
            continue
        for part in inner:
            for each in ast.walk(part):
                found.extend((each.lineno, text) for text in changed(each) & over if hasattr(each, "lineno"))
    return sorted(set(found))


def attributes_and_methods():
    """The names of attributes that are assigned, and those of methods, of all classes."""
    attributes, methods = set(), set()
    for _, tree in trees():
        for node in ast.walk(tree):
            if isinstance(node, ast.Attribute) and isinstance(node.ctx, ast.Store):
                attributes.add(node.attr)
            if isinstance(node, ast.ClassDef):
                methods |= {each.name for each in node.body if isinstance(each, ast.FunctionDef)}
    return attributes, methods


def bound_names(node):
    """The names that a node binds."""
    if isinstance(node, ast.Name) and not isinstance(node.ctx, ast.Load):
        return [node.id]
    if isinstance(node, ast.arg):
        return [node.arg]
    if isinstance(node, (ast.FunctionDef, ast.ClassDef)):
        return [node.name]
    return []


class LanguageTest(unittest.TestCase):

    def test_files(self):
        """L1, L10, L14: plain files of plain characters, none too long."""
        for path in sorted(FOLDER.rglob("*")):
            if path.name == "__pycache__" or path.suffix == ".pyc":
                continue
            with self.subTest(path.name):
                self.assertTrue(path.is_file() and re.fullmatch(r"[a-z0-9_]+\.py", path.name))
                text = path.read_text("utf-8")
                self.assertLessEqual(len(text.splitlines()), 399)
                self.assertEqual([line for line in text.splitlines() if len(line) > 120], [])
                self.assertEqual(sorted(set(text) - set(map(chr, range(32, 127))) - {"\n"}), [])
                self.assertIsNone(BARRED.search(text))

    def test_functions(self):
        """L4, L5, L10, L21: at most 40 lines, no annotations, no decorators but a property's and static ones."""
        for name, tree in trees():
            for node in ast.walk(tree):
                if not isinstance(node, ast.FunctionDef):
                    continue
                with self.subTest(file=name, function=node.name):
                    self.assertLessEqual(node.end_lineno - node.lineno + 1, 40)
                    self.assertIsNone(node.returns)
                    self.assertEqual(node.decorator_list, [])
                    self.assertTrue(not node.name.startswith("__") or node.name in METHODS)

    def test_nodes(self):
        """L6, L7: no statement or expression but those that are allowed; no floats, no percent sign in strings."""
        for name, tree in trees():
            for node in ast.walk(tree):
                with self.subTest(file=name, line=getattr(node, "lineno", 0)):
                    self.assertIn(type(node).__name__, NODES)
                    if isinstance(node, ast.Constant):
                        self.assertIn(type(node.value), (int, str, bool, type(None)))
                        self.assertNotIn("%", str(node.value))

    def test_module_level(self):
        """L3, L15: a docstring, imports, functions, classes and plain values, each name bound once."""
        for name, tree in trees():
            self.assertIsNotNone(ast.get_docstring(tree), name)
            bound = []
            for node in tree.body[1:]:
                with self.subTest(file=name, line=node.lineno):
                    self.assertIsInstance(node, (ast.ImportFrom, ast.FunctionDef, ast.ClassDef, ast.Assign))
                if isinstance(node, ast.ImportFrom):
                    bound.extend(each.name for each in node.names)
                elif isinstance(node, ast.Assign):
                    self.assertEqual(len(node.targets), 1)
                    bound.append(node.targets[0].id)
                else:
                    bound.append(node.name)
            self.assertEqual(len(bound), len(set(bound)), name)

    def test_imports(self):
        """L2, L16: by full names, from the very files that define them."""
        defined = {}
        for name, tree in trees():
            targets = [each.targets[0] for each in tree.body if isinstance(each, ast.Assign)]
            defined[f"eachsecond.{name[:-3]}"] = {
                each for node in tree.body + targets for each in bound_names(node)}
        for name, tree in trees():
            for node in ast.walk(tree):
                self.assertNotIsInstance(node, ast.Import)
                if isinstance(node, ast.ImportFrom):
                    self.assertEqual(node.level, 0)
                    known = LIBRARY.get(node.module, defined.get(node.module, set()))
                    for each in node.names:
                        self.assertIsNone(each.asname)
                        self.assertIn(each.name, known, name)

    def test_methods(self):
        """L25: no other methods of builtin values are called, and none with keywords."""
        own = {each.name for _, tree in trees() for node in tree.body if isinstance(node, ast.ClassDef)
               for each in node.body if isinstance(each, ast.FunctionDef)}
        for name, tree in trees():
            for node in ast.walk(tree):
                if isinstance(node, ast.Call) and isinstance(node.func, ast.Attribute):
                    with self.subTest(file=name, line=node.lineno):
                        self.assertIn(node.func.attr, CALLED | own)
                        self.assertTrue(node.func.attr in own or not node.keywords)

    def test_powers_and_tests_of_identity(self):
        """L20, L27: exponents are literals; `is` stands with None, True and False."""
        for name, tree in trees():
            for node in ast.walk(tree):
                with self.subTest(file=name, line=getattr(node, "lineno", 0)):
                    if isinstance(node, ast.BinOp) and isinstance(node.op, ast.Pow):
                        self.assertIsInstance(node.right, ast.Constant)
                    if isinstance(node, ast.Compare) and isinstance(node.ops[0], (ast.Is, ast.IsNot)):
                        self.assertIsInstance(node.comparators[0], ast.Constant)

    def test_nothing_changes_what_a_loop_goes_over(self):
        """L23: neither by its name, nor through enumerate, zip, items and the like."""
        for name, tree in trees():
            self.assertEqual(changed_loops(tree), [], name)

    def test_names_of_attributes_and_methods(self):
        """L18, L26: no name is both, and few of them are those of methods that values of Python have."""
        attributes, methods = attributes_and_methods()
        self.assertEqual(attributes & methods, set())
        taken = {name for made in (str, int, list, dict, set, bytes, tuple) for name in dir(made)}
        self.assertEqual(methods & taken - CALLED - METHODS, set())
        self.assertEqual(attributes & taken - set("count index title find get join lower upper split strip".split()),
                         set())

    def test_equality(self):
        """L7, L19, L25, L28: with a class that compares, any and its kind take lists, and nothing is sorted in place."""
        for name, tree in trees():
            for node in ast.walk(tree):
                with self.subTest(file=name, line=getattr(node, "lineno", 0)):
                    if isinstance(node, ast.Call) and isinstance(node.func, ast.Name):
                        if node.func.id in ("any", "all", "min", "max", "sum", "sorted"):
                            self.assertNotIsInstance(node.args[0], ast.GeneratorExp)
                    if isinstance(node, ast.ExceptHandler):
                        self.assertNotIn(node.type.id, ("ValueError", "LookupError", "IndexError", "Exception"))
                    if isinstance(node, ast.FunctionDef) and node.name == "__eq__":
                        self.assertTrue(ast.unparse(node.body[0]).startswith("return isinstance(other, "))

    def test_names(self):
        """L8, L15, L17: no other builtin is used, and no local name hides a builtin, a class or an import."""
        for name, tree in trees():
            taken = {each.name for node in tree.body if isinstance(node, ast.ImportFrom) for each in node.names}
            taken |= {node.name for node in tree.body if isinstance(node, ast.ClassDef)}
            for node in ast.walk(tree):
                with self.subTest(file=name, line=getattr(node, "lineno", 0)):
                    for each in bound_names(node):
                        self.assertTrue(each in METHODS or not hasattr(builtins, each), each)
                        self.assertTrue(isinstance(node, ast.ClassDef) or each not in taken, each)
                        self.assertTrue(each == "_" or each in METHODS or re.match("_?[A-Za-z]", each), each)
                    if isinstance(node, ast.Name) and hasattr(builtins, node.id):
                        self.assertIn(node.id, BUILTINS)


class FinderTest(unittest.TestCase):
    """The test of L23 itself."""

    def found(self, text):
        return [place for _, place in changed_loops(ast.parse(text))]

    def test_it_finds_what_a_loop_changes(self):
        for text in (
                "for k in left:\n    left[k] -= 1",
                "for k in left:\n    for j in k:\n        left[k] = j",
                "for k, v in left.items():\n    if v:\n        del left[k]",
                "for k, v in enumerate(left):\n    left[k] += v",
                "for a, b in zip(right, left):\n    left[a], c = b, a",
                "for k in reversed(left):\n    left.pop()\n    return",
                "for k in left.values():\n    left.update(k)",
                "for k in left.keys():\n    left.setdefault(k, 1)",
                "for k in left or right:\n    left.append(k)",
                "for k in right if a else left:\n    left.clear()",
                "for k in left:\n    heappush(left, k)",
                "for k in left:\n    left += [k]",
                "for k in left:\n    for left[k] in k:\n        pass",
                "for left[0] in left:\n    pass",
                "found = [left.pop() for k in left]",
                "found = {k: left.setdefault(k, 1) for j in k for k in enumerate(left)}"):
            self.assertEqual(self.found(text), ["left"], text)
        self.assertEqual(self.found("for k in self.rows:\n    self.rows[k] = 1"), ["self.rows"])
        self.assertEqual(self.found("for k in rows[0]:\n    rows[0][k] = 1"), ["rows[0]"])

    def test_it_finds_nothing_else(self):
        for text in (
                "for k in list(left):\n    left[k] -= 1",
                "for k in sorted(left):\n    del left[k]",
                "for k in left:\n    right[k] = left[k]",
                "for k in left:\n    k[0] = 1",
                "for k in left:\n    pass\nleft[0] = 1",
                "for k in left:\n    left = left + [k]",
                "for k, v in left.items():\n    v -= k",
                "for k in self.left:\n    left[k] = 1",
                "found = [right.pop() for k in left]"):
            self.assertEqual(self.found(text), [], text)


if __name__ == "__main__":
    unittest.main()
