"""The package keeps to the small part of Python that it is written in, as far as its files show it."""

import ast
import builtins
import pathlib
import re
import unittest

PACKAGE = pathlib.Path(__file__).resolve().parent.parent / "lotsandchoices"

OWN_NAMES = set(
    "len range enumerate zip min max sum abs sorted reversed int str bool list tuple dict set frozenset isinstance ord"
    " repr any all divmod Exception ValueError TypeError KeyError IndexError LookupError ZeroDivisionError"
    " ArithmeticError OverflowError RuntimeError NotImplementedError AttributeError StopIteration".split()
)
METHODS = set(
    "append clear copy count endswith extend find get index insert isalnum isalpha isdigit islower isspace isupper"
    " items join keys ljust lower lstrip partition pop remove replace reverse rfind rjust rpartition rsplit rstrip"
    " setdefault split splitlines startswith strip update upper values zfill bit_length".split()
)
STATEMENTS = (
    ast.Assign, ast.AugAssign, ast.If, ast.While, ast.For, ast.Return, ast.Break, ast.Continue, ast.Pass, ast.Raise,
    ast.Try, ast.Expr, ast.FunctionDef, ast.ClassDef, ast.ImportFrom,
)
EXPRESSIONS = (
    ast.Constant, ast.List, ast.Tuple, ast.Dict, ast.BinOp, ast.UnaryOp, ast.Compare, ast.BoolOp, ast.IfExp, ast.Call,
    ast.Attribute, ast.Subscript, ast.Slice, ast.ListComp, ast.JoinedStr, ast.FormattedValue, ast.Name,
)
WORDS_NOWHERE = re.compile(
    r"\b(type|typing|typing_extensions|enum|Enum|IntEnum|StrEnum|Flag|IntFlag|Generic|Protocol|ABC|ABCMeta|namedtuple"
    r"|NamedTuple|TypedDict|TYPE_CHECKING|abstractmethod)\b|dataclass|overload|contextmanager"
)
WALKED = ("zip", "enumerate", "reversed", "range", "items", "keys", "values")
TAKERS = ("list", "tuple", "dict", "sorted", "sum", "any", "all", "enumerate", "zip", "min", "max")
NAMES_NOWHERE = set("register mro elements open input version_info with_traceback add_note".split())


def sources():
    return {path.name: path.read_text(encoding="utf-8") for path in sorted(PACKAGE.glob("*.py"))}


def trees():
    return {name: ast.parse(source) for name, source in sources().items()}


def is_text(statement):
    return isinstance(statement, ast.Expr) and isinstance(statement.value, ast.Constant)


def is_call(node, names):
    return isinstance(node, ast.Call) and isinstance(node.func, ast.Name) and node.func.id in names


def is_plain(value, functions):
    if isinstance(value, ast.Constant):
        return isinstance(value.value, (int, str)) or value.value is None
    if isinstance(value, ast.UnaryOp):
        return isinstance(value.op, ast.USub) and is_plain(value.operand, functions)
    if isinstance(value, (ast.List, ast.Tuple)):
        return all(is_plain(each, functions) for each in value.elts)
    if isinstance(value, ast.Dict):
        return all(is_plain(each, functions) for each in value.keys + value.values)
    return isinstance(value, ast.Name) and value.id in functions


def top_names(tree):
    """The names that a file binds at its top, imports left out."""
    names = []
    for statement in tree.body:
        if isinstance(statement, (ast.FunctionDef, ast.ClassDef)):
            names.append(statement.name)
        elif isinstance(statement, ast.Assign):
            names.append(statement.targets[0].id)
    return names


def imports(tree):
    """For each name that a file draws from another, that file."""
    found = {}
    for statement in tree.body:
        if isinstance(statement, ast.ImportFrom):
            for alias in statement.names:
                found[alias.name] = statement.module
    return found


def nodes_of(*kinds):
    """All nodes of these kinds, each with where it stands."""
    return [
        (f"{name}:{node.lineno}", node)
        for name, tree in trees().items() for node in ast.walk(tree) if isinstance(node, kinds)
    ]


class Language(unittest.TestCase):
    def test_files(self):
        for path in PACKAGE.iterdir():
            if path.name != "__pycache__":
                self.assertRegex(path.name, r"^([a-z][a-z0-9_]*|__init__)\.py$")
                self.assertNotIn(path.stem, dir(builtins))
        for name, source in sources().items():
            lines = source.split("\n")
            self.assertLessEqual(len(lines), 401, name)
            for number, line in enumerate(lines, start=1):
                self.assertRegex(line, r"^[ -~]{0,120}$", f"{name}:{number}")
                self.assertIsNone(WORDS_NOWHERE.search(line), f"{name}:{number}")

    def test_imports(self):
        drawn = {}
        for name, tree in trees().items():
            drawn[name] = {module.split(".")[1] + ".py" for module in imports(tree).values()}
            for imported, module in imports(tree).items():
                self.assertTrue(module.startswith("lotsandchoices."), f"{name}: {module}")
                self.assertIn(imported, top_names(trees()[module.split(".")[1] + ".py"]))
        self.assertEqual(drawn["__init__.py"], set())
        while drawn:
            free = [name for name in drawn if not drawn[name] & set(drawn)]
            self.assertTrue(free, "files draw from one another")
            for name in free:
                drawn.pop(name)

    def test_tops(self):
        for name, tree in trees().items():
            bound = top_names(tree) + list(imports(tree))
            self.assertEqual(len(bound), len(set(bound)), name)
            functions = [each.name for each in tree.body if isinstance(each, ast.FunctionDef)]
            for number, statement in enumerate(tree.body):
                if isinstance(statement, ast.Assign):
                    self.assertTrue(is_plain(statement.value, functions), f"{name}:{statement.lineno}")
                elif not isinstance(statement, (ast.FunctionDef, ast.ClassDef, ast.ImportFrom)):
                    self.assertTrue(number == 0 and is_text(statement), f"{name}:{statement.lineno}")

    def test_statements(self):
        for where, node in nodes_of(ast.stmt):
            with self.subTest(where=where):
                self.assertIsInstance(node, STATEMENTS)
                if isinstance(node, ast.Assign):
                    self.assertEqual(len(node.targets), 1)
                    self.assertNotIsInstance(node.targets[0], (ast.Tuple, ast.List))
                if isinstance(node, (ast.For, ast.While)):
                    self.assertEqual(node.orelse, [])
                if isinstance(node, ast.Expr):
                    self.assertTrue(isinstance(node.value, ast.Call) or isinstance(node.value.value, str))
                if isinstance(node, ast.Try):
                    self.assertEqual(node.finalbody, [])

    def test_expressions(self):
        for where, node in nodes_of(ast.expr):
            with self.subTest(where=where):
                self.assertIsInstance(node, EXPRESSIONS)
                if isinstance(node, ast.Constant):
                    self.assertIn(type(node.value), (int, str, bool, type(None)))
                    self.assertNotIn("%", str(node.value))
                if isinstance(node, ast.BinOp):
                    self.assertNotIsInstance(node.op, (ast.Div, ast.Pow, ast.MatMult))
                if isinstance(node, ast.ListComp):
                    self.assertEqual(len(node.generators), 1)
                    self.assertLessEqual(len(node.generators[0].ifs), 1)
                if isinstance(node, ast.FormattedValue):
                    self.assertIsInstance(node.value, ast.Name)
                    self.assertIsNone(node.format_spec)
                if isinstance(node, ast.Compare) and isinstance(node.ops[0], (ast.Is, ast.IsNot)):
                    self.assertIsInstance(node.comparators[0], ast.Constant)

    def test_sets_and_what_is_walked_at_once(self):
        for name, tree in trees().items():
            around = {inner: node for node in ast.walk(tree) for inner in ast.iter_child_nodes(node)}
            for node in [each for each in ast.walk(tree) if isinstance(each, ast.Call)]:
                outer = around[node]
                called = getattr(node.func, "attr", getattr(node.func, "id", None))
                with self.subTest(where=f"{name}:{node.lineno}"):
                    if called in ("set", "frozenset"):
                        while isinstance(outer, ast.BinOp):
                            outer = around[outer]
                        self.assertTrue(isinstance(outer, ast.Compare) or is_call(outer, ("sorted", "len")))
                    elif called in WALKED:
                        walk = isinstance(outer, (ast.For, ast.comprehension)) and outer.iter is node
                        self.assertTrue(walk or is_call(outer, TAKERS) and outer.args[0] is node)

    def test_functions_and_classes(self):
        for where, node in nodes_of(ast.FunctionDef, ast.ClassDef):
            with self.subTest(where=where):
                self.assertEqual(node.decorator_list, [])
                if isinstance(node, ast.FunctionDef):
                    self.assertLessEqual(node.end_lineno - node.lineno + 1, 40)
                    given = node.args
                    self.assertFalse(given.vararg or given.kwarg or given.kwonlyargs or given.posonlyargs)
                    self.assertFalse(node.returns or [arg for arg in given.args if arg.annotation])
                else:
                    self.assertLessEqual(len(node.bases), 1)
                    for number, statement in enumerate(node.body):
                        self.assertTrue(isinstance(statement, ast.FunctionDef) or number == 0 and is_text(statement))

    def test_names(self):
        for name, tree in trees().items():
            classes = [each.name for each in tree.body if isinstance(each, ast.ClassDef)]
            taken = set(dir(builtins)) | set(imports(tree)) | set(classes)
            known = set(top_names(tree)) | set(imports(tree)) | OWN_NAMES
            for function in [node for node in ast.walk(tree) if isinstance(node, ast.FunctionDef)]:
                nodes = [node for node in ast.walk(function) if isinstance(node, ast.Name)]
                local = {node.id for node in nodes if isinstance(node.ctx, ast.Store)}
                local |= {node.name for node in ast.walk(function) if isinstance(node, ast.ExceptHandler) and node.name}
                local |= {arg.arg for arg in function.args.args}
                with self.subTest(file=name, function=function.name):
                    self.assertEqual(local & (taken | NAMES_NOWHERE), set())
                    self.assertEqual([each for each in local if each.startswith("_")], [])
                    self.assertEqual({node.id for node in nodes} - local - known, set())

    def test_methods_and_values(self):
        methods, values, called = set(), set(), set()
        for tree in trees().values():
            for node in ast.walk(tree):
                if isinstance(node, ast.ClassDef):
                    methods |= {each.name for each in node.body if isinstance(each, ast.FunctionDef)}
                elif isinstance(node, ast.Attribute) and isinstance(node.ctx, ast.Store):
                    values.add(node.attr)
                elif isinstance(node, ast.Call) and isinstance(node.func, ast.Attribute):
                    called.add(node.func.attr)
        pythons = set()
        for kind in (str, int, list, tuple, dict, set, frozenset, bytes):
            pythons |= set(dir(kind))
        self.assertEqual(methods & values, set())
        self.assertEqual((methods - {"__init__"} | values) & (pythons | NAMES_NOWHERE), set())
        self.assertEqual(called - methods - METHODS, set())


if __name__ == "__main__":
    unittest.main()
