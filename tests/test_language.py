"""What can be seen simply of the rules that the package's files keep to."""

import ast
import builtins
import pathlib
import re
import unittest

PACKAGE = pathlib.Path(__file__).resolve().parent.parent / "bouncetable"

NODES = """
Module Expr FunctionDef ClassDef arguments arg Return Assign AugAssign For While If Raise Try ExceptHandler Pass Break
Continue ImportFrom alias BoolOp And Or BinOp Add Sub Mult FloorDiv Mod Pow LShift RShift BitOr BitXor BitAnd UnaryOp
Invert Not USub Lambda IfExp Dict Set ListComp comprehension Compare Eq NotEq Lt LtE Gt GtE Is IsNot In NotIn Call
keyword JoinedStr FormattedValue Constant Attribute Subscript Name List Tuple Slice Load Store
""".split()

PYTHONS_OWN = """
len range enumerate zip min max sum abs sorted reversed int str bool list tuple dict set frozenset isinstance ord repr
any all divmod Exception ValueError TypeError KeyError IndexError LookupError ZeroDivisionError ArithmeticError
OverflowError RuntimeError NotImplementedError AttributeError StopIteration
""".split()

PYTHONS_METHODS = """
append clear copy count endswith extend find get index insert isalnum isalpha isdigit islower isspace isupper items join
keys ljust lower lstrip partition pop remove replace reverse rfind rjust rpartition rsplit rstrip setdefault split
splitlines startswith strip update upper values zfill bit_length
""".split()

NEVER_NAMES = """
register mro elements open input version_info with_traceback add_note attrgetter breakpoint builtins compile copyright
credits delattr dir eval exec exit gc getattr globals hasattr help id importlib license locals methodcaller os quit
setattr super type vars sys __name__ format format_map f_back f_code f_locals f_globals tb_next tb_frame co_names co_code
""".split()

NEVER_WORDS = """
type typing typing_extensions enum Enum IntEnum StrEnum Flag IntFlag Generic Protocol ABC ABCMeta namedtuple NamedTuple
TypedDict TYPE_CHECKING abstractmethod
""".split()

NEVER_PARTS = ("dataclass", "overload", "contextmanager")
NEVER_FILES = ("test", "tests", "testing", "site", "conftest", "sitecustomize", "usercustomize")
METHODS_WITH_UNDERSCORES = ("__init__", "__eq__", "__repr__", "__str__", "__len__")


def files():
    return sorted(path for path in PACKAGE.rglob("*") if path.is_file() and "__pycache__" not in path.parts)


def trees():
    return [(path, ast.parse(path.read_text("utf-8"))) for path in files()]


def nodes():
    return [(f"{path.name}:{getattr(node, 'lineno', 0)}", node) for path, tree in trees() for node in ast.walk(tree)]


def names_in(node):
    """Every name that a node binds or reads."""
    if isinstance(node, ast.Name):
        return [node.id]
    if isinstance(node, ast.arg):
        return [node.arg]
    if isinstance(node, ast.Attribute):
        return [node.attr]
    if isinstance(node, (ast.FunctionDef, ast.ClassDef)):
        return [node.name]
    if isinstance(node, ast.ImportFrom):
        return [alias.name for alias in node.names]
    if isinstance(node, ast.ExceptHandler):
        return [node.name] if node.name else []
    return []


class Files(unittest.TestCase):
    def test_l1_l14_files(self):
        self.assertIn("__init__.py", [path.name for path in files()])
        self.assertIn("switches.py", [path.name for path in files()])
        for path in files():
            with self.subTest(path=path):
                self.assertEqual(path.parent, PACKAGE)
                self.assertRegex(path.name, r"\A([a-z][a-z0-9_]*|__init__)\.py\Z")
                self.assertNotIn(path.stem, NEVER_FILES)
                self.assertFalse(path.stem.startswith("test_"))
                self.assertFalse(path.stem in dir(builtins) or path.stem in NEVER_WORDS)

    def test_l10_l14_lines_and_signs(self):
        for path in files():
            source = path.read_bytes()
            self.assertTrue(all(byte == 10 or 32 <= byte <= 126 for byte in source), path)
            lines = source.decode().split("\n")
            self.assertLessEqual(len(lines), 400, path)
            for number, line in enumerate(lines, 1):
                self.assertLessEqual(len(line), 120, f"{path}:{number}")

    def test_l17_words_that_stand_nowhere(self):
        for path in files():
            source = path.read_text("utf-8")
            for word in re.findall(r"\w+", source):
                self.assertNotIn(word, NEVER_WORDS, path)
            for part in NEVER_PARTS:
                self.assertNotIn(part, source, path)


class Code(unittest.TestCase):
    def test_l2_l16_imports(self):
        own = {path.stem: tree for path, tree in trees()}
        drawn = {}
        for stem, tree in own.items():
            places = [k for k, node in enumerate(tree.body) if isinstance(node, ast.ImportFrom)]
            self.assertTrue(all(k <= len(places) for k in places), stem)
            drawn[stem] = set()
            for node in ast.walk(tree):
                self.assertNotIsInstance(node, ast.Import)
                if isinstance(node, ast.ImportFrom):
                    self.assertIn(node, tree.body)
                    self.assertEqual(node.level, 0)
                    package, _, module = node.module.partition(".")
                    self.assertEqual(package, "bouncetable")
                    drawn[stem].add(module)
                    for alias in node.names:
                        self.assertIsNone(alias.asname)
                        self.assertIn(alias.name, bound_at_top(own[module]))
        while drawn:
            free = [stem for stem, needs in drawn.items() if not needs & set(drawn)]
            self.assertTrue(free, f"these draw from one another: {drawn}")
            for stem in free:
                del drawn[stem]

    def test_l3_l15_top_of_a_file(self):
        for path, tree in trees():
            self.assertIsInstance(tree.body[0].value, ast.Constant)
            for node in tree.body[1:]:
                self.assertIsInstance(node, (ast.ImportFrom, ast.Assign, ast.FunctionDef, ast.ClassDef))
                if isinstance(node, ast.Assign):
                    for inner in ast.walk(node.value):
                        self.assertIsInstance(inner, (ast.Constant, ast.Tuple, ast.List, ast.Dict, ast.UnaryOp,
                                                      ast.USub, ast.Name, ast.Load))
            names = bound_at_top(tree) + [name for node in tree.body if isinstance(node, ast.ImportFrom)
                                          for name in names_in(node)]
            self.assertEqual(len(names), len(set(names)), path)

    def test_l4_l5_defs(self):
        for where, node in nodes():
            if isinstance(node, ast.arguments):
                self.assertFalse(node.vararg or node.kwarg or node.kwonlyargs or node.posonlyargs, where)
                self.assertTrue(all(isinstance(value, ast.Constant) for value in node.defaults), where)
            if isinstance(node, (ast.FunctionDef, ast.ClassDef)):
                self.assertEqual(node.decorator_list, [], where)
            if isinstance(node, ast.ClassDef):
                self.assertLessEqual(len(node.bases), 1, where)
                for inner in node.body[1:]:
                    self.assertIsInstance(inner, ast.FunctionDef, where)

    def test_l6_l7_kinds_of_code(self):
        for where, node in nodes():
            self.assertIn(node.__class__.__name__, NODES, where)
            if isinstance(node, (ast.For, ast.While)):
                self.assertEqual(node.orelse, [], where)
            if isinstance(node, ast.Try):
                self.assertEqual(node.finalbody, [], where)
            if isinstance(node, ast.Assign):
                self.assertEqual(len(node.targets), 1, where)
            if isinstance(node, ast.ListComp):
                self.assertEqual(len(node.generators), 1, where)
                self.assertLessEqual(len(node.generators[0].ifs), 1, where)
            if isinstance(node, ast.Constant):
                self.assertIn(node.value.__class__, (int, str, bool, None.__class__), where)

    def test_l8_l12_l15_l17_names(self):
        for where, node in nodes():
            for name in names_in(node):
                if isinstance(node, ast.FunctionDef) and name in METHODS_WITH_UNDERSCORES:
                    continue
                self.assertNotIn(name, NEVER_NAMES, where)
                self.assertRegex(name, r"\A[A-Za-z][A-Za-z0-9_]*\Z", where)
                if isinstance(node, ast.Attribute):
                    continue
                if name in dir(builtins):
                    self.assertIn(name, PYTHONS_OWN, where)
                    self.assertIsInstance(node, ast.Name, where)
                    self.assertIsInstance(node.ctx, ast.Load, where)

    def test_l10_functions(self):
        for where, node in nodes():
            if isinstance(node, ast.FunctionDef):
                self.assertLessEqual(node.end_lineno - node.lineno + 1, 40, where)

    def test_l18_methods_and_values(self):
        methods, values = set(), set()
        for where, node in nodes():
            if isinstance(node, ast.ClassDef):
                names = [inner.name for inner in node.body if isinstance(inner, ast.FunctionDef)]
                self.assertEqual(len(names), len(set(names)), where)
                methods |= set(names)
            if isinstance(node, ast.Attribute) and isinstance(node.ctx, ast.Store):
                values.add(node.attr)
        self.assertEqual(methods & values, set())
        free = set(dir(str) + dir(int) + dir(list) + dir(dict) + dir(set) + dir(bytes)) - set(METHODS_WITH_UNDERSCORES)
        self.assertEqual((methods | values) & free, set())

    def test_l19_errors(self):
        for where, node in nodes():
            if isinstance(node, ast.ExceptHandler):
                self.assertIsInstance(node.type, ast.Name, where)
                self.assertNotIn(node.type.id, PYTHONS_OWN, where)
            if isinstance(node, ast.Raise):
                self.assertIsInstance(node.exc, ast.Call, where)

    def test_l20_is(self):
        for where, node in nodes():
            if isinstance(node, ast.Compare) and any(isinstance(sign, (ast.Is, ast.IsNot)) for sign in node.ops):
                self.assertTrue(any(isinstance(side, ast.Constant) and side.value in (None, True, False)
                                    for side in [node.left] + node.comparators), where)

    def test_l21_no_annotations(self):
        for where, node in nodes():
            if isinstance(node, ast.arg):
                self.assertIsNone(node.annotation, where)
            if isinstance(node, ast.FunctionDef):
                self.assertIsNone(node.returns, where)

    def test_l25_methods(self):
        own = {inner.name for where, node in nodes() if isinstance(node, ast.ClassDef) for inner in node.body
               if isinstance(inner, ast.FunctionDef)}
        for where, node in nodes():
            if isinstance(node, ast.Call) and isinstance(node.func, ast.Attribute):
                self.assertIn(node.func.attr, list(own) + PYTHONS_METHODS, where)

    def test_l27_texts(self):
        for path in files():
            self.assertNotIn("**", path.read_text("utf-8"))
        for where, node in nodes():
            if isinstance(node, ast.Constant) and isinstance(node.value, str):
                self.assertNotIn("%", node.value, where)


def bound_at_top(tree):
    """The names that a file defines itself."""
    found = []
    for node in tree.body:
        if isinstance(node, (ast.FunctionDef, ast.ClassDef)):
            found.append(node.name)
        if isinstance(node, ast.Assign):
            found += [target.id for target in node.targets]
    return found


if __name__ == "__main__":
    unittest.main()
