"""Holds the package's files against those rules of LANGUAGE.md that can be seen in their text."""

import ast
import builtins
import pathlib
import re
import unittest

PACKAGE = pathlib.Path(__file__).resolve().parent.parent / "whydecided"

BUILT_IN = {name for name in dir(builtins) if not name.startswith("_")}

OWN_OF_PYTHON = set("""
    len range enumerate zip min max sum abs sorted reversed int str bool list tuple dict set frozenset isinstance ord
    repr any all divmod Exception ValueError TypeError KeyError IndexError LookupError ZeroDivisionError
    ArithmeticError OverflowError RuntimeError NotImplementedError AttributeError StopIteration
""".split())

METHODS = set("""
    append clear copy count endswith extend find get index insert isalnum isalpha isdigit islower isspace isupper
    items join keys ljust lower lstrip partition pop remove replace reverse rfind rjust rpartition rsplit rstrip
    setdefault split splitlines startswith strip update upper values zfill bit_length
""".split())

DOUBLE_UNDERSCORES = {"__init__", "__eq__", "__repr__", "__str__", "__len__"}

NOT_IN_A_FILE = re.compile(
    r"\b(type|typing|typing_extensions|enum|Enum|IntEnum|StrEnum|Flag|IntFlag|Generic|Protocol|ABC|ABCMeta|namedtuple"
    r"|NamedTuple|TypedDict|TYPE_CHECKING|abstractmethod)\b|dataclass|overload|contextmanager"
)

NOT_A_NAME = set("""
    register mro elements open input version_info with_traceback add_note format format_map attrgetter breakpoint
    builtins compile copyright credits delattr dir eval exec exit gc getattr globals hasattr help id importlib license
    locals methodcaller os quit setattr super type vars sys
""".split())

NODES = set("""
    Module FunctionDef ClassDef arguments arg Return Assign AugAssign For While If Raise Try ExceptHandler Expr Pass
    Break Continue ImportFrom alias Name Attribute Subscript Slice Call keyword Constant List Tuple Dict BinOp UnaryOp
    BoolOp Compare IfExp Lambda ListComp comprehension JoinedStr FormattedValue Load Store
    Add Sub Mult FloorDiv Mod Pow LShift RShift BitAnd BitOr BitXor Invert Not USub UAdd And Or
    Eq NotEq Lt LtE Gt GtE Is IsNot In NotIn
""".split())


def files():
    return sorted(PACKAGE.rglob("*.py"))


def trees():
    return [(path, ast.parse(path.read_text(encoding="utf-8"))) for path in files()]


def nodes():
    return [(path, node) for path, tree in trees() for node in ast.walk(tree)]


def with_parents():
    """Each node with the one it stands in."""
    return [(path, child, node) for path, node in nodes() for child in ast.iter_child_nodes(node)]


def called_name(node):
    return node.func.id if isinstance(node, ast.Call) and isinstance(node.func, ast.Name) else ""


def is_first_within(node, parent, names):
    return called_name(parent) in names and parent.args[:1] == [node]


def is_docstring(statement):
    return isinstance(statement, ast.Expr) and isinstance(statement.value, ast.Constant)


def bound_names(node):
    if isinstance(node, (ast.FunctionDef, ast.ClassDef)):
        return [node.name]
    if isinstance(node, ast.arg):
        return [node.arg]
    if isinstance(node, ast.Name) and isinstance(node.ctx, ast.Store):
        return [node.id]
    if isinstance(node, ast.Attribute) and isinstance(node.ctx, ast.Store):
        return [node.attr]
    return []


class Files(unittest.TestCase):
    def test_only_plain_python_files(self):
        self.assertIn(PACKAGE / "__init__.py", files())
        for path in PACKAGE.rglob("*"):
            if path.name != "__pycache__" and path.parent.name != "__pycache__":
                self.assertRegex(path.name, r"^([a-z][a-z0-9_]*|__init__)\.py$")
                self.assertNotIn(path.stem, BUILT_IN, path)

    def test_size_and_signs(self):
        for path in files():
            text = path.read_text(encoding="utf-8")
            self.assertRegex(text, r"\A[ -~\n]*\Z", path)
            self.assertLessEqual(len(text.splitlines()), 400, path)
            self.assertLessEqual(max(len(line) for line in text.splitlines()), 120, path)

    def test_words_that_stand_nowhere(self):
        for path in files():
            self.assertIsNone(NOT_IN_A_FILE.search(path.read_text(encoding="utf-8")), path)

    def test_top_of_a_file(self):
        for path, tree in trees():
            names = [name for statement in tree.body for target in getattr(statement, "targets", [statement])
                     for name in bound_names(target)]
            self.assertEqual(len(names), len(set(names)), path)
            for place, statement in enumerate(tree.body):
                fits = isinstance(statement, (ast.ImportFrom, ast.FunctionDef, ast.ClassDef, ast.Assign))
                self.assertTrue(fits or place == 0 and is_docstring(statement), (path, statement.lineno))

    def test_imports(self):
        for path, node in nodes():
            if isinstance(node, ast.ImportFrom):
                self.assertEqual(node.level, 0, path)
                self.assertRegex(node.module, r"^whydecided\.", path)
                source = PACKAGE.parent.joinpath(*node.module.split(".")).with_suffix(".py")
                defined = [name for statement in ast.parse(source.read_text()).body
                           for target in getattr(statement, "targets", [statement]) for name in bound_names(target)]
                for name in node.names:
                    self.assertIn(name.name, defined, path)


class Code(unittest.TestCase):
    def test_kinds_of_code(self):
        for path, node in nodes():
            self.assertIn(node.__class__.__name__, NODES, (path, getattr(node, "lineno", 0)))

    def test_statements(self):
        for path, tree in trees():
            for node in ast.walk(tree):
                if isinstance(node, ast.Expr) and node is not tree.body[0]:
                    self.assertIsInstance(node.value, ast.Call, (path, node.lineno))
                if isinstance(node, ast.Assign):
                    self.assertEqual(len(node.targets), 1, (path, node.lineno))
                if isinstance(node, (ast.For, ast.While)):
                    self.assertEqual(node.orelse, [], (path, node.lineno))
                if isinstance(node, ast.Try):
                    self.assertEqual(node.finalbody, [], (path, node.lineno))

    def test_functions(self):
        for path, node in nodes():
            if isinstance(node, ast.FunctionDef):
                self.assertLessEqual(node.end_lineno - node.lineno + 1, 40, (path, node.name))
                self.assertEqual(node.decorator_list, [], (path, node.name))
            if isinstance(node, ast.arguments):
                self.assertEqual([node.vararg, node.kwarg, node.kwonlyargs, node.posonlyargs], [None, None, [], []])

    def test_classes(self):
        methods = []
        values = []
        for path, node in nodes():
            if isinstance(node, ast.ClassDef):
                self.assertLessEqual(len(node.bases), 1, (path, node.name))
                self.assertEqual([node.decorator_list, node.keywords], [[], []], (path, node.name))
                for statement in node.body:
                    self.assertIsInstance(statement, (ast.FunctionDef, ast.Pass), (path, statement.lineno))
                methods += [statement.name for statement in node.body if isinstance(statement, ast.FunctionDef)]
            if isinstance(node, ast.Attribute) and isinstance(node.ctx, ast.Store):
                values.append(node.attr)
        self.assertEqual(set(methods) & set(values), set())
        taken = {name for value in ["", 0, [], {}, set(), b"", ()] for name in dir(value)}
        self.assertEqual((set(methods) - METHODS - {"add", "discard"} - DOUBLE_UNDERSCORES) & taken, set())
        self.assertEqual(set(values) & taken, set())

    def test_names(self):
        for path, node in nodes():
            for name in bound_names(node):
                where = (path, node.lineno, name)
                self.assertNotIn(name, NOT_A_NAME, where)
                self.assertTrue(name in DOUBLE_UNDERSCORES or re.match(r"[A-Za-z][A-Za-z0-9_]*$", name), where)
                if not isinstance(node, ast.Attribute):
                    self.assertNotIn(name, BUILT_IN, where)
            if isinstance(node, ast.Name) and node.id in BUILT_IN:
                self.assertIn(node.id, OWN_OF_PYTHON, (path, node.lineno))

    def test_methods_that_are_called(self):
        own = {node.name for path, node in nodes() if isinstance(node, ast.FunctionDef)}
        for path, node in nodes():
            if isinstance(node, ast.Call) and isinstance(node.func, ast.Attribute):
                self.assertIn(node.func.attr, METHODS | own, (path, node.lineno))

    def test_values(self):
        for path, node in nodes():
            if isinstance(node, ast.Constant):
                self.assertTrue(node.value is None or isinstance(node.value, (int, str)), (path, node.lineno))
            if isinstance(node, ast.ListComp):
                self.assertEqual(len(node.generators), 1, (path, node.lineno))
                self.assertLessEqual(len(node.generators[0].ifs), 1, (path, node.lineno))
            if isinstance(node, ast.FormattedValue):
                self.assertIsInstance(node.value, ast.Name, (path, node.lineno))
                self.assertIsNone(node.format_spec, (path, node.lineno))

    def test_is_stands_beside_plain_values(self):
        for path, node in nodes():
            if isinstance(node, ast.Compare):
                for sign, right in zip(node.ops, node.comparators):
                    if isinstance(sign, (ast.Is, ast.IsNot)):
                        self.assertIn(getattr(right, "value", 0), [None, True, False], (path, node.lineno))
                        self.assertIsInstance(right, ast.Constant, (path, node.lineno))

    def test_walked_at_once(self):
        kept_apart = ["zip", "enumerate", "reversed", "range"]
        takers = ["list", "tuple", "dict", "sorted", "sum", "any", "all", "enumerate", "zip"]
        for path, node, parent in with_parents():
            method = node.func.attr if isinstance(node, ast.Call) and isinstance(node.func, ast.Attribute) else ""
            if called_name(node) in kept_apart or method in ["items", "keys", "values"]:
                walked = isinstance(parent, (ast.For, ast.comprehension)) and parent.iter is node
                alone = called_name(parent) in ["min", "max"] and parent.args == [node]
                self.assertTrue(walked or alone or is_first_within(node, parent, takers), (path, node.lineno))

    def test_sets_are_not_kept(self):
        for path, node, parent in with_parents():
            if called_name(node) in ["set", "frozenset"]:
                asked = isinstance(parent, ast.Compare) and isinstance(parent.ops[0], (ast.In, ast.NotIn))
                measured = is_first_within(node, parent, ["sorted", "len"]) and parent.keywords == []
                self.assertTrue(asked or measured, (path, node.lineno))

    def test_names_of_python_are_called_and_not_kept(self):
        for path, node, parent in with_parents():
            if isinstance(node, ast.Name) and node.id in BUILT_IN:
                called = isinstance(parent, ast.Call) and parent.func is node
                named = isinstance(parent, (ast.ClassDef, ast.ExceptHandler))
                self.assertTrue(called or named, (path, node.lineno, node.id))

    def test_keywords(self):
        fit = {"sorted": ["key", "reverse"], "min": ["key", "default"], "max": ["key", "default"], "sum": ["start"],
               "enumerate": ["start"], "zip": ["strict"]}
        for path, node in nodes():
            if isinstance(node, ast.Call):
                for keyword in node.keywords:
                    self.assertIn(keyword.arg, fit.get(called_name(node), []), (path, node.lineno))

    def test_powers_and_texts(self):
        for path, node in nodes():
            if isinstance(node, ast.BinOp) and isinstance(node.op, ast.Pow):
                self.assertIn(getattr(node.right, "value", None), range(65), (path, node.lineno))
            if isinstance(node, ast.Constant) and isinstance(node.value, str):
                self.assertNotIn("%", node.value, (path, node.lineno))

    def test_what_is_walked_is_not_changed(self):
        changes = ["append", "clear", "extend", "insert", "pop", "remove", "reverse", "setdefault", "update"]
        for path, loop in nodes():
            if isinstance(loop, ast.For):
                walked = {ast.unparse(part) for part in ast.walk(loop.iter)}
                for node in ast.walk(loop):
                    if isinstance(node, ast.Call) and getattr(node.func, "attr", "") in changes:
                        self.assertNotIn(ast.unparse(node.func.value), walked, (path, node.lineno))
                    if isinstance(node, ast.Subscript) and isinstance(node.ctx, ast.Store):
                        self.assertNotIn(ast.unparse(node.value), walked, (path, node.lineno))

    def test_locals_are_not_called_like_a_class_or_an_import(self):
        for path, tree in trees():
            taken = {node.name for node in tree.body if isinstance(node, ast.ClassDef)}
            taken |= {name.name for node in tree.body if isinstance(node, ast.ImportFrom) for name in node.names}
            for definition in ast.walk(tree):
                if isinstance(definition, ast.FunctionDef):
                    names = [name for node in ast.walk(definition) for name in bound_names(node)]
                    self.assertEqual(set(names) & taken, set(), path)

    def test_no_two_files_draw_from_one_another(self):
        drawn = {}
        for path, tree in trees():
            modules = [node.module.split(".")[-1] for node in tree.body if isinstance(node, ast.ImportFrom)]
            drawn[path.stem] = modules
        while drawn:
            free = [name for name, modules in drawn.items() if not any(module in drawn for module in modules)]
            self.assertNotEqual(free, [], drawn)
            drawn = {name: modules for name, modules in drawn.items() if name not in free}


if __name__ == "__main__":
    unittest.main()
