"""The package keeps to the small part of Python that it is written in (L1 to L28, as far as a look at it tells)."""

import ast
import builtins
import re
import unittest
from pathlib import Path

PACKAGE = Path(__file__).resolve().parent.parent / "oncecodes"
FILES = sorted(PACKAGE.rglob("*.py"))
TREES = {path.stem: ast.parse(path.read_text()) for path in FILES}

ALLOWED_NAMES = set("""len range enumerate zip min max sum abs sorted reversed int str bool list tuple dict set frozenset
    isinstance ord repr any all divmod Exception ValueError TypeError KeyError IndexError LookupError ZeroDivisionError
    ArithmeticError OverflowError RuntimeError NotImplementedError AttributeError StopIteration""".split())
ALLOWED_METHODS = set("""append clear copy count endswith extend find get index insert isalnum isalpha isdigit islower
    isspace isupper items join keys ljust lower lstrip partition pop remove replace reverse rfind rjust rpartition rsplit
    rstrip setdefault split splitlines startswith strip update upper values zfill bit_length""".split())
ALLOWED_NODES = set("""Module FunctionDef ClassDef ImportFrom alias arguments arg Load Store Assign AugAssign If While For
    Return Break Continue Pass Raise Try ExceptHandler Expr Constant List Tuple Dict Name Attribute Subscript Slice Call
    keyword BinOp UnaryOp BoolOp Compare IfExp ListComp comprehension JoinedStr FormattedValue Lambda
    Add Sub Mult FloorDiv Mod Pow BitAnd BitOr BitXor LShift RShift Invert USub Not And Or
    Eq NotEq Lt LtE Gt GtE In NotIn Is IsNot""".split())
OWN_METHODS = {"__init__", "__eq__", "__repr__", "__str__", "__len__"}
BANNED_WORDS = set("""type typing typing_extensions enum Enum IntEnum StrEnum Flag IntFlag Generic Protocol ABC ABCMeta
    namedtuple NamedTuple TypedDict TYPE_CHECKING abstractmethod""".split())
BANNED_NAMES = set("""register mro elements open input version_info with_traceback add_note format format_map""".split())
BANNED_FILES = {"test", "tests", "testing", "site", "conftest", "sitecustomize", "usercustomize"} | BANNED_WORDS
CHANGES = {"append", "clear", "extend", "insert", "pop", "remove", "reverse", "setdefault", "update"}
WALKED_IN = {"list", "tuple", "dict", "sorted", "sum", "any", "all", "enumerate", "zip", "min", "max"}
WALKS = {"zip", "enumerate", "reversed", "range"}
BUILTINS = set(dir(builtins))


def nodes(kind):
    """Each node of that kind in the package, with its file's name."""
    return [(name, node) for name, tree in TREES.items() for node in ast.walk(tree) if isinstance(node, kind)]


def top_names(tree):
    """The names that a file's top binds, imports aside."""
    found = []
    for node in tree.body:
        if isinstance(node, (ast.FunctionDef, ast.ClassDef)):
            found.append(node.name)
        elif isinstance(node, ast.Assign):
            found.append(node.targets[0].id)
    return found


def is_plain(node):
    """Whether the value is a plain one, as a file's top may hold it."""
    if isinstance(node, ast.UnaryOp):
        return isinstance(node.op, ast.USub) and isinstance(node.operand, ast.Constant)
    if isinstance(node, (ast.List, ast.Tuple)):
        return all(is_plain(each) for each in node.elts)
    if isinstance(node, ast.Dict):
        return all(is_plain(each) for each in node.keys + node.values)
    return isinstance(node, ast.Constant)


class Files(unittest.TestCase):
    def test_names(self):
        self.assertTrue(FILES)
        for path in PACKAGE.rglob("*"):
            if path.name == "__pycache__" or path.parent.name == "__pycache__":
                continue
            self.assertRegex(path.name, r"^([a-z][a-z0-9_]*|__init__)\.py$")
            self.assertNotIn(path.stem, BANNED_FILES | BUILTINS)
            self.assertFalse(path.stem.startswith("test_"))

    def test_signs_lines_and_words(self):
        for path in FILES:
            text = path.read_bytes().decode("ascii")
            self.assertRegex(text, r"\A[ -~\n]*\Z")
            self.assertLessEqual(len(text.splitlines()), 400)
            self.assertLessEqual(max(len(line) for line in text.splitlines()), 120)
            self.assertFalse(set(re.findall(r"\w+", text)) & BANNED_WORDS, path)
            self.assertNotRegex(text, "dataclass|overload|contextmanager")

    def test_tops(self):
        for name, tree in TREES.items():
            self.assertIsNotNone(ast.get_docstring(tree), name)
            for node in tree.body[1:]:
                self.assertIsInstance(node, (ast.ImportFrom, ast.FunctionDef, ast.ClassDef, ast.Assign))
                if isinstance(node, ast.Assign):
                    self.assertTrue(is_plain(node.value), (name, node.lineno))
            names = top_names(tree)
            self.assertEqual(len(names), len(set(names)), name)

    def test_imports(self):
        drawn = {name: set() for name in TREES}
        for name, node in nodes(ast.ImportFrom):
            self.assertIn(node, TREES[name].body)
            package, part = node.module.split(".")
            self.assertEqual((package, node.level), ("oncecodes", 0))
            for each in node.names:
                self.assertIsNone(each.asname)
                self.assertIn(each.name, top_names(TREES[part]))
            drawn[name].add(part)
        while drawn:
            free = [name for name in drawn if not drawn[name] & set(drawn)]
            self.assertTrue(free, "files draw from one another")
            for name in free:
                drawn.pop(name)

    def test_imports_are_used(self):
        for name, node in nodes(ast.ImportFrom):
            used = {each.id for each in ast.walk(TREES[name]) if isinstance(each, ast.Name)}
            self.assertLessEqual({each.name for each in node.names}, used, name)


class Forms(unittest.TestCase):
    def test_nodes(self):
        for name, node in nodes(ast.AST):
            self.assertIn(node.__class__.__name__, ALLOWED_NODES, (name, getattr(node, "lineno", 0)))

    def test_values(self):
        for name, node in nodes(ast.Constant):
            self.assertIn(node.value.__class__.__name__, ("int", "str", "bool", "NoneType"), name)
            if isinstance(node.value, str):
                self.assertNotIn("%", node.value)
        for name, node in nodes(ast.BinOp):
            if isinstance(node.op, ast.Pow):
                self.assertIsInstance(node.right, ast.Constant)

    def test_functions(self):
        for name, node in nodes(ast.FunctionDef):
            self.assertLessEqual(node.end_lineno - node.lineno + 1, 40, node.name)
            self.assertFalse(node.decorator_list or node.args.vararg or node.args.kwarg or node.args.kwonlyargs)
            self.assertFalse(node.args.posonlyargs or node.returns)
            self.assertTrue(all(is_plain(value) for value in node.args.defaults))

    def test_classes(self):
        methods = set()
        for name, node in nodes(ast.ClassDef):
            self.assertIn(node, TREES[name].body)
            self.assertFalse(node.decorator_list or node.keywords or len(node.bases) > 1)
            self.assertIsNotNone(ast.get_docstring(node))
            own = [each.name for each in node.body[1:] if isinstance(each, ast.FunctionDef)]
            self.assertEqual(len(own), len(node.body) - 1)
            self.assertEqual(len(own), len(set(own)))
            methods |= set(own)
        stored = {node.attr for name, node in nodes(ast.Attribute) if isinstance(node.ctx, ast.Store)}
        self.assertFalse(methods & stored)
        for kind in (str, int, list, dict, set, bytes):
            self.assertFalse(stored & set(dir(kind)) - {"count", "index", "title", "find", "get", "join", "copy"})
            self.assertFalse((methods - OWN_METHODS) & set(dir(kind)) - ALLOWED_METHODS)

    def test_assignments(self):
        for name, node in nodes(ast.Assign):
            self.assertEqual(len(node.targets), 1)
            self.assertNotIsInstance(node.targets[0], (ast.Tuple, ast.List))

    def test_is_stands_beside_none_and_truths(self):
        for name, node in nodes(ast.Compare):
            for sign, other in zip(node.ops, node.comparators):
                if isinstance(sign, (ast.Is, ast.IsNot)):
                    self.assertIn(ast.unparse(other), ("None", "True", "False"))

    def test_comprehensions(self):
        for name, node in nodes(ast.ListComp):
            self.assertEqual(len(node.generators), 1)
            self.assertLessEqual(len(node.generators[0].ifs), 1)


class Names(unittest.TestCase):
    def bound(self, tree):
        """The names that are bound within the defs of a file."""
        for node in ast.walk(tree):
            if isinstance(node, ast.arg):
                yield node.arg
            elif isinstance(node, ast.Name) and isinstance(node.ctx, ast.Store):
                yield node.id

    def test_plain(self):
        for name, tree in TREES.items():
            for each in list(self.bound(tree)) + top_names(tree):
                self.assertRegex(each, r"^[A-Za-z][A-Za-z0-9_]*$")
                self.assertNotIn(each, BANNED_NAMES | BUILTINS, name)

    def test_no_local_like_an_import_or_a_class(self):
        for name, tree in TREES.items():
            outer = {each.name for node in tree.body if isinstance(node, ast.ImportFrom) for each in node.names}
            outer |= {node.name for node in tree.body if isinstance(node, (ast.ClassDef, ast.FunctionDef))}
            self.assertFalse(outer & set(self.bound(tree)), name)

    def test_python_s_own(self):
        for name, node in nodes(ast.Name):
            if node.id in BUILTINS:
                self.assertIn(node.id, ALLOWED_NAMES, name)

    def test_methods(self):
        own = {node.name for name, node in nodes(ast.FunctionDef)}
        for name, node in nodes(ast.Attribute):
            self.assertNotIn(node.attr, BANNED_NAMES)
        for name, node in nodes(ast.Call):
            if isinstance(node.func, ast.Attribute):
                self.assertIn(node.func.attr, ALLOWED_METHODS | own, name)

    def test_keywords(self):
        for name, node in nodes(ast.Call):
            for each in node.keywords:
                self.assertIn((ast.unparse(node.func), each.arg), [
                    ("sorted", "key"), ("sorted", "reverse"), ("min", "key"), ("max", "key"), ("min", "default"),
                    ("max", "default"), ("sum", "start"), ("enumerate", "start"), ("zip", "strict")])


class Walks(unittest.TestCase):
    def test_walked_on_the_spot(self):
        walked = set()
        for name, node in nodes((ast.For, ast.comprehension)):
            walked.add(node.iter)
        for name, node in nodes(ast.Call):
            if isinstance(node.func, ast.Name) and node.func.id in WALKED_IN:
                walked |= set(node.args)
        for name, node in nodes(ast.Call):
            if isinstance(node.func, ast.Name) and node.func.id in WALKS:
                self.assertIn(node, walked, (name, node.lineno))
            if isinstance(node.func, ast.Attribute) and node.func.attr in ("items", "keys", "values"):
                self.assertIn(node, walked, (name, node.lineno))

    def test_sets_are_asked_on_the_spot(self):
        asked = set()
        for name, node in nodes(ast.Call):
            if ast.unparse(node.func) in ("len", "sorted") and not node.keywords:
                asked |= set(node.args)
        for name, node in nodes(ast.Compare):
            asked |= {node.left, *node.comparators}
        for name, node in nodes(ast.Call):
            if ast.unparse(node.func) in ("set", "frozenset"):
                self.assertIn(node, asked, (name, node.lineno))

    def test_tables_are_not_changed(self):
        for name, tree in TREES.items():
            tops = set(top_names(tree))
            for node in ast.walk(tree):
                if isinstance(node, ast.Subscript) and isinstance(node.ctx, ast.Store):
                    self.assertNotIn(ast.unparse(node.value), tops)
                if isinstance(node, ast.Call) and isinstance(node.func, ast.Attribute) and node.func.attr in CHANGES:
                    self.assertNotIn(ast.unparse(node.func.value), tops)

    def test_what_a_loop_walks_is_not_changed(self):
        for name, loop in nodes(ast.For):
            walked = {ast.unparse(each) for each in [loop.iter] + getattr(loop.iter, "args", [])}
            for node in [each for line in loop.body for each in ast.walk(line)]:
                if isinstance(node, ast.Subscript) and isinstance(node.ctx, ast.Store):
                    self.assertNotIn(ast.unparse(node.value), walked)
                if isinstance(node, ast.Call) and isinstance(node.func, ast.Attribute) and node.func.attr in CHANGES:
                    self.assertNotIn(ast.unparse(node.func.value), walked)


if __name__ == "__main__":
    unittest.main()
