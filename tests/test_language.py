"""The rules of LANGUAGE.md that a look at the syntax tree can tell; the others are kept by reading."""

import ast
import builtins
import pathlib
import re
import unittest

FOLDER = pathlib.Path(__file__).resolve().parent.parent / "watchedtree"
STATEMENTS = (ast.Assign, ast.AugAssign, ast.If, ast.While, ast.For, ast.Return, ast.Break, ast.Continue, ast.Pass,
              ast.Raise, ast.Try, ast.Expr, ast.FunctionDef, ast.ClassDef, ast.ImportFrom)
EXPRESSIONS = (ast.BoolOp, ast.BinOp, ast.UnaryOp, ast.IfExp, ast.Compare, ast.Call, ast.Attribute, ast.Subscript,
               ast.Slice, ast.Name, ast.Constant, ast.List, ast.Tuple, ast.Dict, ast.Set, ast.ListComp, ast.Lambda,
               ast.JoinedStr, ast.FormattedValue)
OWN_NAMES = set("""len range enumerate zip min max sum abs sorted reversed int str bool list tuple dict set frozenset
    isinstance ord repr any all divmod Exception ValueError TypeError KeyError IndexError LookupError ZeroDivisionError
    ArithmeticError OverflowError RuntimeError NotImplementedError AttributeError StopIteration""".split())
OWN_METHODS = set("""append clear copy count endswith extend find get index insert isalnum isalpha isdigit islower
    isspace isupper items join keys ljust lower lstrip partition pop remove replace reverse rfind rjust rpartition
    rsplit rstrip setdefault split splitlines startswith strip update upper values zfill bit_length""".split())
UNUSED_NAMES = set("register mro elements open input version_info with_traceback add_note format format_map".split())
UNUSED_WORDS = re.compile(r"\b(type|typing|typing_extensions|enum|Enum|IntEnum|StrEnum|Flag|IntFlag|Generic|Protocol"
                          r"|ABC|ABCMeta|namedtuple|NamedTuple|TypedDict|TYPE_CHECKING|abstractmethod)\b"
                          r"|dataclass|overload|contextmanager")
BUILT_IN = set(dir(builtins))
PYTHONS_VALUES = (str, int, list, dict, set, bytes, tuple)


def faults_of_text(text):
    for number, line in enumerate(text.split("\n"), 1):
        if len(line) > 120 or re.search("[^ -~]", line) or UNUSED_WORDS.search(line):
            yield number, "L10, L14 or L17"
    if text.count("\n") > 400:
        yield 401, "L10"


def faults_of_def(node):
    if node.decorator_list:
        yield "L4 or L5"
    if isinstance(node, ast.FunctionDef):
        if node.end_lineno - node.lineno >= 40:
            yield "L10"
        plain = node.args
        if plain.vararg or plain.kwarg or plain.kwonlyargs or plain.posonlyargs:
            yield "L4"
        if any(each.arg in BUILT_IN for each in plain.args):
            yield "L15"


def faults_of_name(name, bound):
    if name.startswith("_") or not name.isascii() or name in UNUSED_NAMES:
        yield "L12 or L17"
    if bound and name in BUILT_IN or not bound and name in BUILT_IN - OWN_NAMES:
        yield "L8 or L15"


def faults_of_node(node):
    if isinstance(node, ast.stmt) and not isinstance(node, STATEMENTS):
        yield "L6"
    if isinstance(node, ast.expr) and not isinstance(node, EXPRESSIONS):
        yield "L7"
    if isinstance(node, (ast.FunctionDef, ast.ClassDef)):
        yield from faults_of_def(node)
    if isinstance(node, ast.Assign) and len(node.targets) > 1 or isinstance(node, (ast.For, ast.While)) and node.orelse:
        yield "L6"
    if isinstance(node, ast.Name):
        yield from faults_of_name(node.id, isinstance(node.ctx, ast.Store))
    if isinstance(node, ast.Attribute) and node.attr != "__init__":
        if node.attr.startswith("_") or node.attr in UNUSED_NAMES:
            yield "L12 or L17"
        if node.attr not in OWN_METHODS and any(hasattr(value, node.attr) for value in PYTHONS_VALUES):
            yield "L25 or L26"
    if isinstance(node, ast.ImportFrom) and (node.level or not node.module.startswith("watchedtree.")):
        yield "L2"
    if isinstance(node, ast.Constant) and not (node.value is None or isinstance(node.value, (int, str))):
        yield "L7"


def faults(text):
    found = list(faults_of_text(text))
    for node in ast.walk(ast.parse(text)):
        found += [(getattr(node, "lineno", 0), fault) for fault in faults_of_node(node)]
    return found


def class_names(texts):
    methods, values = set(), set()
    for text in texts:
        for node in ast.walk(ast.parse(text)):
            if isinstance(node, ast.ClassDef):
                methods |= {each.name for each in node.body if isinstance(each, ast.FunctionDef)}
            if isinstance(node, ast.Attribute) and isinstance(node.ctx, ast.Store):
                values.add(node.attr)
    return methods, values


class Language(unittest.TestCase):
    def texts(self):
        return {path.name: path.read_text("utf-8") for path in sorted(FOLDER.glob("*.py"))}

    def test_the_package_keeps_to_the_rules(self):
        self.assertIn("tree.py", self.texts())
        for name, text in self.texts().items():
            with self.subTest(file=name):
                self.assertEqual(faults(text), [])

    def test_only_plain_files_lie_in_the_package(self):
        for path in FOLDER.iterdir():
            self.assertTrue(path.name == "__pycache__" or re.fullmatch("[a-z0-9_]+[.]py", path.name), path.name)

    def test_no_name_is_a_method_here_and_a_value_there(self):
        methods, values = class_names(self.texts().values())
        self.assertEqual(methods & values, set())

    def test_faults_are_found(self):
        for text in ["x = 1.5", "import os", "def f(*a): pass", "def f(list): pass", "x = y = 1", "del x", "_a = 1",
                     "x.sort()", "x.open", "x = {a for a in b}", "open(1)", "# type", "x = '\xe9'", "with a: pass",
                     "x = id(1)", "for a in b:\n    pass\nelse:\n    pass", "x" * 121]:
            with self.subTest(text=text):
                self.assertNotEqual(faults(text), [])


if __name__ == "__main__":
    unittest.main()
