"""The package's files, held to the rules on the language that can be seen from their form."""

import ast
import builtins
import pathlib
import re
import unittest

PACKAGE = pathlib.Path(__file__).resolve().parent.parent / "jamroad"

# L3 to L7. Anything that is not named here is out.
STATEMENTS = (
    ast.Assign, ast.AugAssign, ast.If, ast.While, ast.For, ast.Return, ast.Break, ast.Continue, ast.Pass, ast.Raise,
    ast.Try, ast.ExceptHandler, ast.Expr, ast.FunctionDef, ast.ClassDef, ast.ImportFrom, ast.Module,
)
EXPRESSIONS = (
    ast.BinOp, ast.UnaryOp, ast.BoolOp, ast.Compare, ast.IfExp, ast.Call, ast.Attribute, ast.Subscript, ast.Slice,
    ast.ListComp, ast.comprehension, ast.JoinedStr, ast.FormattedValue, ast.Constant, ast.Name, ast.List, ast.Tuple,
    ast.Dict, ast.Lambda, ast.arguments, ast.arg, ast.keyword, ast.alias,
    ast.operator, ast.unaryop, ast.boolop, ast.cmpop, ast.expr_context,
)
# L8, less the chr of L27 and the print of __main__.py.
BUILTIN_NAMES = set(
    "len range enumerate zip min max sum abs sorted reversed int str bool list tuple dict set frozenset isinstance ord"
    " repr any all divmod Exception ValueError TypeError KeyError IndexError LookupError ZeroDivisionError"
    " ArithmeticError OverflowError RuntimeError NotImplementedError AttributeError StopIteration".split()
)
# L25.
METHODS = set(
    "append clear copy count endswith extend find get index insert isalnum isalpha isdigit islower isspace isupper"
    " items join keys ljust lower lstrip partition pop remove replace reverse rfind rjust rpartition rsplit rstrip"
    " setdefault split splitlines startswith strip update upper values zfill bit_length".split()
)
# L17.
WORDS = re.compile(
    r"\b(type|typing|typing_extensions|enum|Enum|IntEnum|StrEnum|Flag|IntFlag|Generic|Protocol|ABC|ABCMeta|namedtuple"
    r"|NamedTuple|TypedDict|TYPE_CHECKING|abstractmethod)\b|dataclass|overload|contextmanager"
)
# L26: what Python's own values have is no name for a value of an object, but for these.
TAKEN_FIELDS = {
    name for kind in (str, int, list, tuple, dict, set, bytes) for name in dir(kind)
} - set("count index title find get join lower upper split strip copy add".split()) | {"args", "sort"}


def sources():
    return [(path, path.read_bytes()) for path in sorted(PACKAGE.glob("*.py"))]


def trees():
    return [(path, ast.parse(source)) for path, source in sources()]


def bound_names(tree):
    for node in ast.walk(tree):
        if isinstance(node, (ast.FunctionDef, ast.ClassDef)):
            yield node.name
        elif isinstance(node, ast.arg):
            yield node.arg
        elif isinstance(node, ast.Name) and isinstance(node.ctx, ast.Store):
            yield node.id


class Language(unittest.TestCase):
    def test_only_plain_python_files_lie_in_the_package(self):
        names = [path.name for path in PACKAGE.iterdir() if path.name != "__pycache__"]
        self.assertIn("__init__.py", names)
        for name in names:
            self.assertRegex(name, r"\A([a-z][a-z0-9_]*|__init__|__main__)\.py\Z")

    def test_signs_and_sizes(self):
        for path, source in sources():
            lines = source.decode("ascii").split("\n")
            self.assertLessEqual(len(lines), 400, path)
            for number, line in enumerate(lines, start=1):
                self.assertLessEqual(len(line), 120, (path, number))
                self.assertRegex(line, r"\A[ -~]*\Z", (path, number))

    def test_words_that_stand_nowhere(self):
        for path, source in sources():
            self.assertIsNone(WORDS.search(source.decode("ascii")), path)

    def test_statements_and_expressions(self):
        for path, tree in trees():
            for node in ast.walk(tree):
                self.assertIsInstance(node, STATEMENTS + EXPRESSIONS, (path, ast.dump(node)))
                if isinstance(node, (ast.While, ast.For)):
                    self.assertEqual(node.orelse, [], path)
                if isinstance(node, (ast.FunctionDef, ast.ClassDef)):
                    self.assertEqual(node.decorator_list, [], path)
                if isinstance(node, ast.BinOp):
                    self.assertNotIsInstance(node.op, (ast.Div, ast.MatMult), path)

    def test_functions_are_short(self):
        for path, tree in trees():
            for node in ast.walk(tree):
                if isinstance(node, ast.FunctionDef):
                    self.assertLessEqual(node.end_lineno - node.lineno + 1, 40, (path, node.name))

    def test_imports_are_the_packages_own(self):
        for path, tree in trees():
            for node in ast.walk(tree):
                if isinstance(node, ast.ImportFrom):
                    self.assertEqual(node.level, 0, path)
                    self.assertRegex(node.module, r"\Ajamroad\.[a-z]", path)

    def test_names(self):
        for path, tree in trees():
            for name in bound_names(tree):
                self.assertRegex(name, r"\A([A-Za-z][A-Za-z0-9_]*|__(init|eq|repr|str|len)__)\Z", path)
                if not name.startswith("__"):
                    self.assertFalse(hasattr(builtins, name), (path, name))
            for node in ast.walk(tree):
                if isinstance(node, ast.Name) and hasattr(builtins, node.id):
                    self.assertIn(node.id, BUILTIN_NAMES, path)

    def test_methods(self):
        parsed = trees()
        own = {
            method.name
            for path, tree in parsed for node in tree.body if isinstance(node, ast.ClassDef)
            for method in node.body if isinstance(method, ast.FunctionDef)
        }
        for path, tree in parsed:
            for node in ast.walk(tree):
                if isinstance(node, ast.Call) and isinstance(node.func, ast.Attribute):
                    self.assertIn(node.func.attr, METHODS | own, path)

    def test_fields_and_methods_are_called_differently(self):
        fields = set()
        methods = set()
        for path, tree in trees():
            for node in ast.walk(tree):
                if isinstance(node, ast.Attribute) and isinstance(node.ctx, ast.Store):
                    fields.add(node.attr)
                if isinstance(node, ast.ClassDef):
                    names = [method.name for method in node.body if isinstance(method, ast.FunctionDef)]
                    self.assertEqual(len(names), len(set(names)), (path, node.name))
                    methods.update(names)
        self.assertEqual(fields & methods, set())
        self.assertEqual(fields & TAKEN_FIELDS, set())
        for name in fields:
            self.assertRegex(name, r"\A[A-Za-z][A-Za-z0-9_]*\Z")

    def test_no_local_is_called_like_an_import_or_a_class(self):
        for path, tree in trees():
            top = {alias.name for node in tree.body if isinstance(node, ast.ImportFrom) for alias in node.names}
            top |= {node.name for node in tree.body if isinstance(node, ast.ClassDef)}
            for node in ast.walk(tree):
                if isinstance(node, ast.arg):
                    self.assertNotIn(node.arg, top, path)
                if isinstance(node, ast.Name) and isinstance(node.ctx, ast.Store):
                    self.assertNotIn(node.id, top, path)

    def test_names_are_drawn_from_the_file_that_defines_them(self):
        defined = {
            "jamroad." + path.stem: {node.name for node in tree.body if isinstance(node, (ast.FunctionDef, ast.ClassDef))}
            for path, tree in trees()
        }
        for path, tree in trees():
            for node in ast.walk(tree):
                if isinstance(node, ast.ImportFrom):
                    for alias in node.names:
                        self.assertIn(alias.name, defined[node.module], path)

    def test_no_two_files_draw_from_one_another(self):
        draws = {
            "jamroad." + path.stem: [node.module for node in tree.body if isinstance(node, ast.ImportFrom)]
            for path, tree in trees()
        }
        while draws:
            free = [name for name, others in draws.items() if not any(other in draws for other in others)]
            self.assertNotEqual(free, [], draws)
            for name in free:
                draws.pop(name)

    def test_is_stands_beside_none_true_and_false_alone(self):
        for path, tree in trees():
            for node in ast.walk(tree):
                if isinstance(node, ast.Compare):
                    for operator, right in zip(node.ops, node.comparators):
                        if isinstance(operator, (ast.Is, ast.IsNot)):
                            self.assertIsInstance(right, ast.Constant, path)
                            self.assertIn(right.value, (None, True, False), path)


if __name__ == "__main__":
    unittest.main()
