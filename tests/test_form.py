"""The package keeps to the small part of Python it is written in: the rules that can be seen file by file."""

import ast
import builtins
import re
import unittest
from pathlib import Path

PACKAGE = Path(__file__).resolve().parent.parent / "leanmodes"

ALLOWED_BUILTINS = set(
    "len range enumerate zip min max sum abs sorted reversed int str bool list tuple dict set frozenset isinstance "
    "ord repr any all divmod Exception ValueError TypeError KeyError IndexError LookupError ZeroDivisionError "
    "ArithmeticError OverflowError RuntimeError NotImplementedError AttributeError StopIteration".split()
)

ALLOWED_NODES = set(
    "Module Expr Constant ImportFrom alias FunctionDef arguments arg Lambda ClassDef Assign AugAssign If While For "
    "Return Break Continue Pass Raise Try ExceptHandler Call keyword Name Load Store Attribute Subscript Slice List "
    "Tuple Dict Set ListComp comprehension BinOp UnaryOp BoolOp Compare IfExp JoinedStr FormattedValue "
    "Add Sub Mult FloorDiv Mod Pow BitAnd BitOr BitXor LShift RShift Invert Not USub UAdd And Or "
    "Eq NotEq Lt LtE Gt GtE Is IsNot In NotIn".split()
)

SPECIAL_METHODS = {"__init__", "__eq__", "__repr__", "__str__", "__len__"}

METHODS_OF_PYTHON = set(
    "append clear copy count endswith extend find get index insert isalnum isalpha isdigit islower isspace isupper "
    "items join keys ljust lower lstrip partition pop remove replace reverse rfind rjust rpartition rsplit rstrip "
    "setdefault split splitlines startswith strip update upper values zfill bit_length".split()
)

EVERY_METHOD_OF_PYTHON = {
    name for kind in (int, str, list, tuple, dict, set, frozenset, bytes) for name in dir(kind) if name[0] != "_"
}

WORDS = re.compile(
    r"\b(type|typing|typing_extensions|enum|Enum|IntEnum|StrEnum|Flag|IntFlag|Generic|Protocol|ABC|ABCMeta|namedtuple"
    r"|NamedTuple|TypedDict|TYPE_CHECKING|abstractmethod)\b|dataclass|overload|contextmanager"
)


def files():
    return sorted(path for path in PACKAGE.rglob("*") if path.is_file() and "__pycache__" not in path.parts)


def names_bound(node):
    if isinstance(node, ast.Name):
        return [node.id]
    if isinstance(node, ast.arg):
        return [node.arg]
    if isinstance(node, ast.Attribute):
        return [node.attr]
    if isinstance(node, (ast.FunctionDef, ast.ClassDef)):
        return [node.name]
    if isinstance(node, ast.ExceptHandler) and node.name:
        return [node.name]
    return []


def faults_of_lines(text):
    lines = text.split("\n")
    if len(lines) - 1 > 400:
        yield "L10", len(lines)
    for at, line in enumerate(lines, 1):
        if len(line) > 120:
            yield "L10", at
        if not all(" " <= sign <= "~" for sign in line):
            yield "L14", at
        if WORDS.search(line):
            yield "L17", at


def faults_of_names(node):
    for name in names_bound(node):
        if not name.isascii() or (name.startswith("_") and name not in SPECIAL_METHODS):
            yield "L12", node.lineno
    if isinstance(node, ast.Name):
        if hasattr(builtins, node.id):
            if node.id not in ALLOWED_BUILTINS:
                yield "L8", node.lineno
            if isinstance(node.ctx, ast.Store):
                yield "L15", node.lineno
    if isinstance(node, ast.arg) and hasattr(builtins, node.arg):
        yield "L15", node.lineno
    if isinstance(node, ast.Attribute) and node.attr in EVERY_METHOD_OF_PYTHON - METHODS_OF_PYTHON - {"add", "discard"}:
        yield "L25", node.lineno


def faults_of_functions(node):
    if isinstance(node, ast.FunctionDef):
        if node.end_lineno - node.lineno + 1 > 40:
            yield "L10", node.lineno
        given = node.args
        if given.vararg or given.kwarg or given.kwonlyargs or given.posonlyargs or node.decorator_list:
            yield "L4", node.lineno
    if isinstance(node, ast.ClassDef):
        if node.decorator_list or node.keywords or len(node.bases) > 1:
            yield "L5", node.lineno
        if not all(isinstance(part, (ast.FunctionDef, ast.Pass, ast.Expr)) for part in node.body):
            yield "L5", node.lineno


def faults_of_statements(node):
    if type(node).__name__ not in ALLOWED_NODES:
        yield "L6 or L7", getattr(node, "lineno", 0)
    if isinstance(node, (ast.For, ast.While)) and node.orelse:
        yield "L6", node.lineno
    if isinstance(node, ast.Try) and node.finalbody:
        yield "L6", node.lineno
    if isinstance(node, ast.Assign) and len(node.targets) > 1:
        yield "L6", node.lineno
    if isinstance(node, ast.Constant) and isinstance(node.value, (float, complex, bytes)):
        yield "L7", node.lineno
    if isinstance(node, ast.Constant) and isinstance(node.value, str) and "%" in node.value:
        yield "L27", node.lineno
    if isinstance(node, ast.ListComp) and (len(node.generators) > 1 or len(node.generators[0].ifs) > 1):
        yield "L7", node.lineno


def faults_of_imports(tree):
    for node in ast.walk(tree):
        if isinstance(node, ast.ImportFrom):
            own = node.level == 0 and (node.module or "").startswith("leanmodes.")
            if not own or node not in tree.body or any(name.name == "*" for name in node.names):
                yield "L2", node.lineno


def names_drawn(tree):
    return [(node.module, name) for node in tree.body if isinstance(node, ast.ImportFrom) for name in node.names]


def faults_of_shared_names(tree):
    taken = {name.asname or name.name for _, name in names_drawn(tree)}
    taken |= {node.name for node in tree.body if isinstance(node, ast.ClassDef)}
    for node in ast.walk(tree):
        if isinstance(node, ast.arg) and node.arg in taken:
            yield "L15", node.lineno
        if isinstance(node, ast.Name) and isinstance(node.ctx, ast.Store) and node.id in taken:
            yield "L15", node.lineno


def names_at_top(tree):
    found = [node.name for node in tree.body if isinstance(node, (ast.FunctionDef, ast.ClassDef))]
    for node in tree.body:
        if isinstance(node, ast.Assign):
            found.extend(target.id for target in node.targets)
    return found


def drawn_in_a_ring(draws):
    """The files that draw from themselves in however many steps."""
    reached = {name: set(straight) for name, straight in draws.items()}
    for _ in draws:
        for name in reached:
            for other in list(reached[name]):
                reached[name] |= reached.get(other, set())
    return [name for name in reached if name in reached[name]]


def faults(text):
    found = list(faults_of_lines(text))
    tree = ast.parse(text)
    found.extend(faults_of_imports(tree))
    found.extend(faults_of_shared_names(tree))
    for node in ast.walk(tree):
        for look in (faults_of_names, faults_of_functions, faults_of_statements):
            found.extend(look(node))
    return found


class Form(unittest.TestCase):
    def test_the_package_holds_plainly_named_files_alone(self):
        self.assertTrue((PACKAGE / "__init__.py").is_file())
        for path in files():
            with self.subTest(file=path.name):
                self.assertRegex(path.name, r"\A([a-z][a-z0-9_]*|__init__|__main__)\.py\Z")

    def test_every_file_keeps_to_the_rules(self):
        for path in files():
            with self.subTest(file=path.name):
                self.assertEqual(faults(path.read_text(encoding="utf-8")), [])

    def test_each_name_is_drawn_from_the_file_that_defines_it_and_no_files_in_a_ring(self):
        trees = {"leanmodes." + path.stem: ast.parse(path.read_text(encoding="utf-8")) for path in files()}
        for file, tree in trees.items():
            self.assertEqual(len(names_at_top(tree)), len(set(names_at_top(tree))), file)
            for module, name in names_drawn(tree):
                with self.subTest(file=file, module=module, name=name.name):
                    self.assertIn(name.name, names_at_top(trees[module]))
        draws = {file: {module for module, _ in names_drawn(tree)} for file, tree in trees.items()}
        self.assertEqual(drawn_in_a_ring(draws), [])
        self.assertEqual(drawn_in_a_ring({"a": {"b"}, "b": {"c"}, "c": {"b"}, "d": set()}), ["b", "c"])

    def test_no_name_is_a_method_in_one_class_and_a_value_in_another(self):
        methods, values = set(), set()
        for path in files():
            tree = ast.parse(path.read_text(encoding="utf-8"))
            for kind in [node for node in tree.body if isinstance(node, ast.ClassDef)]:
                methods |= {part.name for part in kind.body if isinstance(part, ast.FunctionDef)}
            values |= {
                node.attr for node in ast.walk(tree) if isinstance(node, ast.Attribute) and isinstance(node.ctx, ast.Store)
            }
        self.assertIn("put_ware", methods)
        self.assertGreater(len(values), 0)
        self.assertEqual(methods & values, set())
        self.assertEqual(methods & EVERY_METHOD_OF_PYTHON, set())

    def test_faults_are_seen(self):
        for text, rule in [
            ("import math\n", "L6 or L7"),
            ("from math import gcd\n", "L2"),
            ("x = 1 / 2\n", "L6 or L7"),
            ("x = 0.5\n", "L7"),
            ("x = map(abs, [])\n", "L8"),
            ("def f(*xs):\n    return xs\n", "L4"),
            ("def f(id):\n    return id\n", "L15"),
            ("class A:\n    x = 1\n", "L5"),
            ("# the type of it\n", "L17"),
            ("hidden = 1\n_hidden = 2\n", "L12"),
            ("def f(xs):\n    xs.sort()\n", "L25"),
            ("x = 1" + " " * 120 + "\n", "L10"),
            ("def f():\n" + "    pass\n" * 40, "L10"),
            ("x = '\u00e9'\n", "L14"),
            ("from leanmodes.counts import lowest\n\ndef f(lowest):\n    return lowest\n", "L15"),
        ]:
            with self.subTest(text=text):
                self.assertIn(rule, [fault[0] for fault in faults(text)])


if __name__ == "__main__":
    unittest.main()
