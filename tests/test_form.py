"""The form of the package: the interface's names and arguments, and rules of the language that can be read off."""

import ast
import builtins
import inspect
import os
import re
import subprocess
import sys
import unittest

from platehalldesk import hall

ROOT = os.path.dirname(os.path.dirname(os.path.abspath(__file__)))
PACKAGE = os.path.join(ROOT, "platehalldesk")

INTERFACE = {
    "judge": ["a"],
    "draw": ["a"],
    "read": ["t"],
    "join": ["how", "a", "b"],
    "spread": ["d", "a"],
    "shrink": ["d", "off", "a"],
    "turn": ["how", "a"],
    "shift": ["dx", "dy", "a"],
    "cut": ["x", "y", "w", "h", "a"],
    "first": ["from_place", "a"],
    "same": ["a", "b"],
    "cell": ["a", "b"],
    "class_number": ["a", "b", "x", "y"],
    "rank": ["a", "b", "way", "x", "y"],
    "table": ["a", "b", "way"],
    "tint": ["a", "b", "way", "t", "ox", "oy", "w", "h"],
    "count": ["a", "b", "way", "t", "x", "y", "w", "h"],
    "tone": ["a", "b", "way", "s"],
}

BUILT_IN = """len range enumerate zip min max sum abs sorted reversed int str bool list tuple dict set frozenset
isinstance ord repr any all divmod Exception ValueError TypeError KeyError IndexError LookupError ZeroDivisionError
ArithmeticError OverflowError RuntimeError NotImplementedError AttributeError StopIteration""".split()

METHODS = """append clear copy count endswith extend find get index insert isalnum isalpha isdigit islower isspace
isupper items join keys ljust lower lstrip partition pop remove replace reverse rfind rjust rpartition rsplit rstrip
setdefault split splitlines startswith strip update upper values zfill bit_length""".split()

WORDS = """type typing typing_extensions enum Enum IntEnum StrEnum Flag IntFlag Generic Protocol ABC ABCMeta
namedtuple NamedTuple TypedDict TYPE_CHECKING abstractmethod""".split()

NODES_OUT = (ast.Import, ast.With, ast.Match, ast.Delete, ast.Global, ast.Nonlocal, ast.Assert, ast.Yield,
             ast.YieldFrom, ast.AsyncFunctionDef, ast.Await, ast.Div, ast.MatMult, ast.SetComp, ast.DictComp,
             ast.GeneratorExp, ast.NamedExpr, ast.Starred, ast.AnnAssign)

# Names that Python's own values have: no method and no value of a class of the package's own is called so.
TAKEN = {name for kind in (str, int, list, tuple, dict, set, frozenset, bytes) for name in dir(kind)}


def package_files():
    names = sorted(name for name in os.listdir(PACKAGE) if name != "__pycache__")
    return [os.path.join(PACKAGE, name) for name in names]


def sources():
    for path in package_files():
        with open(path, encoding="utf-8", newline="") as source:
            yield os.path.basename(path), source.read()


def nodes():
    for name, source in sources():
        for node in ast.walk(ast.parse(source)):
            yield name, node


def bound_at_top(source):
    """The names that a file's top binds itself, those that it draws in left out."""
    names = []
    for node in ast.parse(source).body:
        if isinstance(node, (ast.FunctionDef, ast.ClassDef)):
            names.append(node.name)
        elif isinstance(node, ast.Assign):
            names.append(node.targets[0].id)
    return names


def drawn_in():
    """Of each file of the package: the rows by which it draws names in."""
    return {name: [node for node in ast.walk(ast.parse(source)) if isinstance(node, ast.ImportFrom)]
            for name, source in sources()}


def methods_and_values():
    """What the package's own classes have: the methods and the values that are given through self."""
    methods = []
    values = []
    for name, node in nodes():
        if isinstance(node, ast.ClassDef):
            methods += [inner.name for inner in node.body if isinstance(inner, ast.FunctionDef)]
        if isinstance(node, ast.Attribute) and isinstance(node.ctx, ast.Store):
            values.append(node.attr)
    return methods, values


class Interface(unittest.TestCase):
    def test_names_and_arguments(self):
        for name, arguments in INTERFACE.items():
            self.assertEqual(list(inspect.signature(getattr(hall, name)).parameters), arguments)

    def test_nothing_is_printed_by_drawing_it_in(self):
        told = subprocess.run([sys.executable, "-c", "import platehalldesk.hall"], cwd=ROOT, capture_output=True)
        self.assertEqual((told.returncode, told.stdout, told.stderr), (0, b"", b""))


class Language(unittest.TestCase):
    def test_only_python_files(self):
        for path in package_files():
            self.assertRegex(os.path.basename(path), r"^[a-z0-9_]+\.py$")

    def test_sizes_and_signs(self):
        for name, source in sources():
            rows = source.split("\n")
            self.assertLessEqual(len(rows), 401, name)
            self.assertLessEqual(max(len(row) for row in rows), 120, name)
            self.assertRegex(source, r"\A[ -~\n]*\Z", name)

    def test_words_that_stand_nowhere(self):
        for name, source in sources():
            self.assertEqual([w for w in re.findall(r"\w+", source) if w in WORDS], [], name)

    def test_functions_are_plain_and_short(self):
        for name, node in nodes():
            if isinstance(node, ast.FunctionDef):
                self.assertLessEqual(node.end_lineno - node.lineno + 1, 40, node.name)
                self.assertEqual((node.decorator_list, node.args.vararg, node.args.kwarg), ([], None, None))

    def test_statements_and_expressions(self):
        for name, node in nodes():
            self.assertNotIsInstance(node, NODES_OUT, f"{name}: {getattr(node, 'lineno', 0)}")
            if isinstance(node, (ast.For, ast.While)):
                self.assertEqual(node.orelse, [])
            if isinstance(node, ast.Assign):
                self.assertEqual(len(node.targets), 1)
            if isinstance(node, ast.ListComp):
                self.assertEqual(len(node.generators), 1)
                self.assertLessEqual(len(node.generators[0].ifs), 1)
            if isinstance(node, ast.Constant):
                self.assertIn(type(node.value), (int, str, bool, type(None)))

    def test_names(self):
        for name, node in nodes():
            if isinstance(node, ast.Name):
                self.assertFalse(node.id.startswith("_"), node.id)
                if hasattr(builtins, node.id):
                    self.assertIn(node.id, BUILT_IN)
                    self.assertIsInstance(node.ctx, ast.Load)
            if isinstance(node, (ast.arg, ast.FunctionDef)):
                own = node.arg if isinstance(node, ast.arg) else node.name
                if own != "__init__":
                    self.assertFalse(own.startswith("_") or hasattr(builtins, own), own)

    def test_attributes(self):
        methods, values = methods_and_values()
        for name, node in nodes():
            if isinstance(node, ast.Attribute):
                self.assertIn(node.attr, METHODS + methods + values)
            if isinstance(node, ast.Attribute) and isinstance(node.ctx, ast.Store):
                self.assertIsInstance(node.value, ast.Name)
        own = [name for name in methods + values if name != "__init__"]
        self.assertEqual([name for name in own if name in TAKEN], [])
        self.assertEqual([name for name in methods if name in values], [])

    def test_classes_are_plain(self):
        for name, node in nodes():
            if isinstance(node, ast.ClassDef):
                self.assertEqual((node.decorator_list, node.keywords), ([], []))
                self.assertLessEqual(len(node.bases), 1)
                inner = [part for part in node.body if not isinstance(part, ast.FunctionDef)]
                self.assertTrue(all(isinstance(part, ast.Expr) for part in inner), node.name)

    def test_each_name_of_a_file_is_bound_once(self):
        for name, source in sources():
            names = bound_at_top(source) + [drawn.name for row in drawn_in()[name] for drawn in row.names]
            self.assertEqual(len(names), len(set(names)), name)

    def test_names_are_drawn_from_the_package_alone(self):
        bound = {name[:-3]: bound_at_top(source) for name, source in sources()}
        for name, rows in drawn_in().items():
            for row in rows:
                self.assertEqual((row.level, row.col_offset), (0, 0), name)
                self.assertEqual(row.module.split(".")[0], "platehalldesk", name)
                for drawn in row.names:
                    self.assertIn(drawn.name, bound[row.module.split(".")[1]], name)
                    self.assertIsNone(drawn.asname)

    def test_no_two_files_draw_from_one_another(self):
        left = {name[:-3]: {row.module.split(".")[1] for row in rows} for name, rows in drawn_in().items()}
        while left:
            free = [name for name, needed in left.items() if not needed & set(left)]
            self.assertTrue(free, left)
            for name in free:
                del left[name]


if __name__ == "__main__":
    unittest.main()
