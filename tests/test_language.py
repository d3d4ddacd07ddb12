"""Some of the rules of the language, those that are easily read off the package's files."""

import ast
import builtins
import os
import re
import unittest

FOLDER = os.path.join(os.path.dirname(os.path.abspath(__file__)), "..", "seasonboard")

STATEMENTS = (
    ast.Assign, ast.AugAssign, ast.If, ast.While, ast.For, ast.Return, ast.Break, ast.Continue, ast.Pass,
    ast.Raise, ast.Try, ast.Expr, ast.FunctionDef, ast.ClassDef, ast.ImportFrom,
)
EXPRESSIONS = (
    ast.Constant, ast.Name, ast.Attribute, ast.Subscript, ast.Slice, ast.Call, ast.BinOp, ast.UnaryOp,
    ast.BoolOp, ast.Compare, ast.IfExp, ast.List, ast.Tuple, ast.Dict, ast.ListComp, ast.Lambda,
    ast.JoinedStr, ast.FormattedValue,
)
PYTHON_NAMES = set(
    "len range enumerate zip min max sum abs sorted reversed int str bool list tuple dict set isinstance "
    "any all divmod ValueError KeyError IndexError LookupError ZeroDivisionError Exception".split()
)
PYTHON_METHODS = set(
    "append clear copy count extend find get index insert items join keys pop remove reverse setdefault "
    "split update values".split()
)
WORDS = re.compile(
    r"\b(type|typing|typing_extensions|enum|Enum|IntEnum|StrEnum|Flag|IntFlag|Generic|Protocol|ABC|ABCMeta|"
    r"namedtuple|NamedTuple|TypedDict|TYPE_CHECKING|abstractmethod)\b|dataclass|overload|contextmanager"
)


def package_files():
    return sorted(name for name in os.listdir(FOLDER) if name != "__pycache__")


def text_of(name):
    with open(os.path.join(FOLDER, name), encoding="utf-8", newline="") as file:
        return file.read()


def nodes(name):
    return list(ast.walk(ast.parse(text_of(name))))


def bound_names(tree_nodes):
    """Every name that a file binds, at its top or within."""
    names = set()
    for node in tree_nodes:
        if isinstance(node, ast.Name) and isinstance(node.ctx, ast.Store):
            names.add(node.id)
        elif isinstance(node, (ast.FunctionDef, ast.ClassDef)):
            names.add(node.name)
        elif isinstance(node, ast.arg):
            names.add(node.arg)
        elif isinstance(node, ast.ImportFrom):
            names.update(alias.asname or alias.name for alias in node.names)
    return names


class Language(unittest.TestCase):
    def test_files_and_signs(self):
        self.assertIn("__init__.py", package_files())
        for name in package_files():
            self.assertRegex(name, r"^(__init__|[a-z][a-z0-9_]*)\.py$")
            self.assertRegex(text_of(name), r"\A[ -~\n]*\Z")
            self.assertIsNone(WORDS.search(text_of(name)), name)

    def test_sizes(self):
        for name in package_files():
            rows = text_of(name).split("\n")
            self.assertLessEqual(len(rows), 400, name)
            self.assertLessEqual(max(len(row) for row in rows), 120, name)
            for node in nodes(name):
                if isinstance(node, ast.FunctionDef):
                    self.assertLessEqual(node.end_lineno - node.lineno + 1, 40, node.name)

    def test_statements_and_expressions(self):
        for name in package_files():
            for node in nodes(name):
                if isinstance(node, ast.stmt):
                    self.assertIsInstance(node, STATEMENTS, (name, node.lineno))
                if isinstance(node, ast.expr):
                    self.assertIsInstance(node, EXPRESSIONS, (name, node.lineno))
                self.assertNotIsInstance(node, (ast.Div, ast.MatMult))
                if isinstance(node, ast.Assign):
                    self.assertEqual(len(node.targets), 1, (name, node.lineno))

    def test_imports(self):
        for name in package_files():
            for node in nodes(name):
                if isinstance(node, ast.ImportFrom):
                    self.assertEqual(node.level, 0)
                    source = nodes(node.module.removeprefix("seasonboard.") + ".py")
                    defined = bound_names(part for part in source if not isinstance(part, ast.ImportFrom))
                    self.assertLessEqual({alias.name for alias in node.names}, defined)

    def test_names(self):
        for name in package_files():
            bound = bound_names(nodes(name))
            self.assertEqual(bound & (PYTHON_NAMES | set(dir(builtins))), set(), name)
            for word in bound - {"__init__"}:
                self.assertRegex(word, r"^[A-Za-z][A-Za-z0-9_]*$")
            read = {node.id for node in nodes(name) if isinstance(node, ast.Name)}
            self.assertLessEqual(read, bound | PYTHON_NAMES, name)

    def test_methods_and_values(self):
        methods, values, called = set(), set(), set()
        for name in package_files():
            for node in nodes(name):
                if isinstance(node, ast.ClassDef):
                    methods.update(part.name for part in node.body if isinstance(part, ast.FunctionDef))
                if isinstance(node, ast.Attribute) and isinstance(node.ctx, ast.Store):
                    values.add(node.attr)
                if isinstance(node, ast.Call) and isinstance(node.func, ast.Attribute):
                    called.add(node.func.attr)
        self.assertEqual(methods & values, set())
        self.assertLessEqual(called, methods | PYTHON_METHODS)
        taken = set()
        for plain in (int, str, list, dict, set, tuple, bytes):
            taken.update(dir(plain))
        self.assertEqual(values & taken, set())

    def test_tops_of_files(self):
        for name in package_files():
            bound = []
            for node in ast.parse(text_of(name)).body:
                self.assertIsInstance(node, (ast.ImportFrom, ast.FunctionDef, ast.ClassDef, ast.Assign, ast.Expr))
                if isinstance(node, ast.Expr):
                    self.assertIsInstance(node.value, ast.Constant, name)
                if isinstance(node, ast.Assign):
                    bound.append(node.targets[0].id)
                    inner = [part for part in ast.walk(node.value) if part is not node.value]
                    self.assertFalse([part for part in inner if isinstance(part, (ast.List, ast.Dict, ast.Call))], bound)
                if isinstance(node, (ast.FunctionDef, ast.ClassDef)):
                    bound.append(node.name)
                if isinstance(node, ast.ImportFrom):
                    bound.extend(alias.name for alias in node.names)
            self.assertEqual(len(bound), len(set(bound)), name)

    def test_functions(self):
        for name in package_files():
            for node in nodes(name):
                if isinstance(node, (ast.FunctionDef, ast.ClassDef)):
                    self.assertEqual(node.decorator_list, [])
                if isinstance(node, ast.arguments):
                    self.assertEqual((node.vararg, node.kwarg, node.kwonlyargs, node.posonlyargs), (None, None, [], []))

    def test_no_local_is_called_like_a_name_of_the_file_or_an_import(self):
        for name in package_files():
            tree = ast.parse(text_of(name))
            imported = {alias.name for node in tree.body if isinstance(node, ast.ImportFrom) for alias in node.names}
            top = imported | {node.name for node in tree.body if isinstance(node, (ast.FunctionDef, ast.ClassDef))}
            for function in ast.walk(tree):
                if isinstance(function, ast.FunctionDef):
                    within = [part for part in ast.walk(function) if part is not function]
                    self.assertEqual(bound_names(within) & top, set(), (name, function.name))

    def test_no_two_files_draw_from_one_another(self):
        drawn = {}
        for name in package_files():
            drawn[name] = {node.module.split(".")[1] + ".py" for node in nodes(name) if isinstance(node, ast.ImportFrom)}
        while drawn:
            free = [name for name in drawn if not drawn[name] & set(drawn)]
            self.assertTrue(free, drawn)
            for name in free:
                drawn.pop(name)

    def test_views_are_walked_on_the_spot(self):
        for name in package_files():
            walked = [node.iter for node in nodes(name) if isinstance(node, (ast.For, ast.comprehension))]
            for node in nodes(name):
                if isinstance(node, ast.Call):
                    called = node.func.id if isinstance(node.func, ast.Name) else node.func.attr
                    if called in ("zip", "enumerate", "reversed", "range", "items", "keys", "values"):
                        self.assertTrue([part for part in walked if ast.dump(part) == ast.dump(node)], (name, called))
                    self.assertNotIn(called, ("set", "frozenset", "chr", "print"))
                    self.assertEqual(node.keywords, [])

    def test_one_for_and_at_most_one_if(self):
        for name in package_files():
            for node in nodes(name):
                if isinstance(node, ast.ListComp):
                    self.assertEqual(len(node.generators), 1)
                    self.assertLessEqual(len(node.generators[0].ifs), 1)
                if isinstance(node, ast.Compare):
                    self.assertFalse([op for op in node.ops if isinstance(op, (ast.Is, ast.IsNot))])
                if isinstance(node, (ast.For, ast.While)):
                    self.assertEqual(node.orelse, [])


if __name__ == "__main__":
    unittest.main()
