"""The form of the package's files: what of the language they keep to."""

import ast
import builtins
import pathlib
import re
import unittest

PACKAGE = pathlib.Path(__file__).resolve().parent.parent / "hitpage"
FILES = sorted(PACKAGE.rglob("*.py"))

STATEMENTS = (
    ast.Import, ast.ImportFrom, ast.FunctionDef, ast.ClassDef, ast.Assign, ast.AugAssign, ast.AnnAssign, ast.If,
    ast.While, ast.For, ast.Return, ast.Break, ast.Continue, ast.Pass, ast.Raise, ast.Try, ast.Expr,
)
EXPRESSIONS = (
    ast.Constant, ast.Name, ast.List, ast.Tuple, ast.Dict, ast.Set, ast.BinOp, ast.UnaryOp, ast.BoolOp, ast.Compare,
    ast.IfExp, ast.Call, ast.Attribute, ast.Subscript, ast.Slice, ast.ListComp, ast.Lambda, ast.JoinedStr,
    ast.FormattedValue,
)
OWN_NAMES = set(
    "len range enumerate zip min max sum abs sorted reversed int str bool list tuple dict set frozenset isinstance ord"
    " repr any all divmod Exception ValueError TypeError KeyError IndexError LookupError ZeroDivisionError"
    " ArithmeticError OverflowError RuntimeError NotImplementedError AttributeError StopIteration".split()
)
METHODS = set(
    "append clear copy count endswith extend find get index insert isalnum isalpha isdigit islower isspace isupper items"
    " join keys ljust lower lstrip partition pop remove replace reverse rfind rjust rpartition rsplit rstrip setdefault"
    " split splitlines startswith strip update upper values zfill bit_length".split()
)
UNUSED_NAMES = set(
    "register mro elements open input version_info with_traceback add_note attrgetter breakpoint builtins compile"
    " copyright credits delattr dir eval exec exit gc getattr globals hasattr help id importlib license locals"
    " methodcaller os quit setattr super type vars sys format format_map".split()
)
UNUSED_WORDS = set(
    "type typing typing_extensions enum Enum IntEnum StrEnum Flag IntFlag Generic Protocol ABC ABCMeta namedtuple"
    " NamedTuple TypedDict TYPE_CHECKING abstractmethod".split()
)
UNUSED_PARTS = ("dataclass", "overload", "contextmanager")
DOUBLED = set("__init__ __eq__ __repr__ __str__ __len__".split())
KEPT_BY_PYTHON = set()
for kept in (str, int, list, dict, set, bytes, tuple):
    KEPT_BY_PYTHON.update(dir(kept))


def read(path):
    return path.read_text(encoding="utf-8")


def tree(path):
    return ast.parse(read(path))


def module_of(path):
    return ".".join(("hitpage",) + path.relative_to(PACKAGE).with_suffix("").parts)


def nodes(kind):
    return [(path, node) for path in FILES for node in ast.walk(tree(path)) if isinstance(node, kind)]


def bound_names(node):
    """The parameters and locals that a def binds."""
    names = [argument.arg for argument in ast.walk(node) if isinstance(argument, ast.arg)]
    return names + [name.id for name in ast.walk(node) if isinstance(name, ast.Name) and isinstance(name.ctx, ast.Store)]


class Files(unittest.TestCase):
    def test_nothing_but_plain_files_lies_in_the_package(self):
        self.assertTrue(FILES)
        for path in PACKAGE.rglob("*"):
            if "__pycache__" in path.parts:
                continue
            self.assertEqual(path.suffix, ".py", path)
            if path.name != "__init__.py":
                self.assertRegex(path.name, "^[a-z][a-z0-9_]*[.]py$")
                self.assertNotIn(path.stem, dir(builtins))

    def test_sizes_and_signs(self):
        for path in FILES:
            lines = read(path).split("\n")
            self.assertLessEqual(len(lines), 401, path)
            for number, line in enumerate(lines, 1):
                self.assertLessEqual(len(line), 120, (path, number))
                self.assertRegex(line, "^[ -~]*$", (path, number))
        for path, node in nodes(ast.FunctionDef):
            self.assertLessEqual(node.end_lineno - node.lineno + 1, 40, (path, node.name))

    def test_words_that_stand_nowhere(self):
        for path in FILES:
            words = set(re.findall("[A-Za-z0-9_]+", read(path)))
            self.assertEqual(words & UNUSED_WORDS, set(), path)
            for part in UNUSED_PARTS:
                self.assertNotIn(part, read(path))

    def test_imports_are_from_the_file_that_defines_the_name(self):
        for path, node in nodes(ast.Import):
            self.fail((path, node.lineno))
        for path, node in nodes(ast.ImportFrom):
            self.assertEqual(node.level, 0)
            source = PACKAGE.parent.joinpath(*node.module.split(".")).with_suffix(".py")
            self.assertIn(source, FILES)
            defined = set()
            for statement in tree(source).body:
                if isinstance(statement, (ast.FunctionDef, ast.ClassDef)):
                    defined.add(statement.name)
                if isinstance(statement, ast.Assign):
                    defined.add(statement.targets[0].id)
            for name in node.names:
                self.assertIn(name.name, defined)
                self.assertIsNone(name.asname)

    def test_no_two_files_draw_from_one_another(self):
        draws = {module_of(path): set() for path in FILES}
        for path, node in nodes(ast.ImportFrom):
            draws[module_of(path)].add(node.module)
        while draws:
            free = [module for module, others in draws.items() if not others & set(draws)]
            self.assertTrue(free, draws)
            for module in free:
                draws.pop(module)


class Language(unittest.TestCase):
    def test_statements(self):
        for path, node in nodes(ast.stmt):
            where = (path, node.lineno)
            self.assertIsInstance(node, STATEMENTS, where)
            if isinstance(node, ast.Assign):
                self.assertEqual(len(node.targets), 1, where)
                self.assertIsInstance(node.targets[0], (ast.Name, ast.Attribute, ast.Subscript), where)
            if isinstance(node, (ast.For, ast.While)):
                self.assertEqual(node.orelse, [], where)
            if isinstance(node, ast.Try):
                self.assertEqual(node.finalbody, [], where)
            if isinstance(node, ast.Expr) and node.lineno > 1:
                self.assertIsInstance(node.value, ast.Call, where)
            if isinstance(node, (ast.FunctionDef, ast.ClassDef)):
                self.assertEqual(node.decorator_list, [], where)

    def test_expressions(self):
        for path, node in nodes(ast.expr):
            where = (path, node.lineno)
            self.assertIsInstance(node, EXPRESSIONS, where)
            if isinstance(node, ast.Constant):
                self.assertNotIsInstance(node.value, (float, bytes, complex), where)
            if isinstance(node, ast.BinOp):
                self.assertNotIsInstance(node.op, (ast.Div, ast.Pow, ast.MatMult), where)
            if isinstance(node, ast.Compare):
                for operator, right in zip(node.ops, node.comparators):
                    if isinstance(operator, (ast.Is, ast.IsNot)):
                        self.assertIsInstance(right, ast.Constant, where)

    def test_functions_have_plain_parameters(self):
        for path, node in nodes((ast.FunctionDef, ast.Lambda)):
            given = node.args
            self.assertEqual((given.vararg, given.kwarg, given.kwonlyargs, given.posonlyargs), (None, None, [], []))

    def test_classes_hold_methods_alone(self):
        for path, node in nodes(ast.ClassDef):
            self.assertLessEqual(len(node.bases), 1)
            for method in node.body:
                self.assertIsInstance(method, ast.FunctionDef, (path, node.name))

    def test_no_name_is_a_method_and_a_value(self):
        methods = {method.name for path, node in nodes(ast.ClassDef) for method in node.body}
        stored = {node.attr for path, node in nodes(ast.Attribute) if isinstance(node.ctx, ast.Store)}
        self.assertEqual(methods & stored, set())
        self.assertEqual((methods | stored) & KEPT_BY_PYTHON - DOUBLED, set())

    def test_names(self):
        for path, node in nodes(ast.Name):
            self.assertRegex(node.id, "^[A-Za-z][A-Za-z0-9_]*$", path)
            self.assertNotIn(node.id, UNUSED_NAMES, path)
            if node.id in dir(builtins):
                self.assertIn(node.id, OWN_NAMES, path)
                self.assertIsInstance(node.ctx, ast.Load, path)
        for path, node in nodes(ast.Attribute):
            self.assertNotIn(node.attr, UNUSED_NAMES, path)
            if node.attr in KEPT_BY_PYTHON:
                self.assertIn(node.attr, METHODS | DOUBLED, path)

    def test_locals_hide_nothing(self):
        for path in FILES:
            taken = set(dir(builtins))
            for node in ast.walk(tree(path)):
                if isinstance(node, ast.ClassDef):
                    taken.add(node.name)
                if isinstance(node, ast.ImportFrom):
                    taken.update(name.name for name in node.names)
            for node in ast.walk(tree(path)):
                if isinstance(node, ast.FunctionDef):
                    self.assertEqual(set(bound_names(node)) & taken, set(), (path, node.name))


if __name__ == "__main__":
    unittest.main()
