"""That the package's own files keep to the part of Python that they are written in."""

import ast
import builtins
import pathlib
import re
import unittest

FOLDER = pathlib.Path(__file__).resolve().parent.parent / "stackwords"
FILES = sorted(FOLDER.glob("**/*.py"))
OWN_NAMES = set("""
    len range enumerate zip min max sum abs sorted reversed int str bool list tuple dict set frozenset isinstance ord
    repr any all divmod Exception ValueError TypeError KeyError IndexError LookupError ZeroDivisionError
    ArithmeticError OverflowError RuntimeError NotImplementedError AttributeError StopIteration
""".split())
METHODS = set("""
    append clear copy count endswith extend find get index insert isalnum isalpha isdigit islower isspace isupper items
    join keys ljust lower lstrip partition pop remove replace reverse rfind rjust rpartition rsplit rstrip setdefault
    split splitlines startswith strip update upper values zfill bit_length
""".split())
NOWHERE = """
    type typing typing_extensions enum Enum IntEnum StrEnum Flag IntFlag Generic Protocol ABC ABCMeta namedtuple
    NamedTuple TypedDict TYPE_CHECKING abstractmethod
""".split()
NOT_NAMES = set("""
    register mro elements open input version_info with_traceback add_note attrgetter breakpoint builtins compile
    copyright credits delattr dir eval exec exit gc getattr globals hasattr help id importlib license locals
    methodcaller os quit setattr super vars sys
""".split())
STATEMENTS = (ast.Assign, ast.AugAssign, ast.If, ast.While, ast.For, ast.Return, ast.Break, ast.Continue, ast.Pass,
              ast.Raise, ast.Try, ast.Expr, ast.FunctionDef, ast.ClassDef, ast.ImportFrom)
NEVER = (ast.SetComp, ast.DictComp, ast.GeneratorExp, ast.NamedExpr, ast.Starred, ast.Await, ast.Yield, ast.YieldFrom,
         ast.AnnAssign, ast.Div, ast.MatMult)
WITH_UNDERSCORES = ("__init__", "__eq__", "__repr__", "__str__", "__len__")
BUILT_IN_VALUES = set().union(*[dir(kind) for kind in (str, int, list, dict, set, bytes)])


def trees():
    return [(path, ast.parse(path.read_text())) for path in FILES]


def nodes(kind):
    return [(path, node) for path, tree in trees() for node in ast.walk(tree) if isinstance(node, kind)]


def own_methods():
    return {part.name for _, node in nodes(ast.ClassDef) for part in node.body if isinstance(part, ast.FunctionDef)}


def values_given():
    return {node.attr for _, node in nodes(ast.Attribute) if isinstance(node.ctx, ast.Store)}


def is_plain(value):
    if isinstance(value, (ast.List, ast.Tuple)):
        return all(is_plain(part) for part in value.elts)
    if isinstance(value, ast.Dict):
        return all(is_plain(part) for part in value.keys + value.values)
    return isinstance(value, (ast.Constant, ast.Name))


class Files(unittest.TestCase):
    def test_nothing_else_lies_in_the_package(self):
        others = [path for path in FOLDER.glob("**/*") if path.is_file() and path.suffix not in (".py", ".pyc")]
        self.assertEqual(others, [])
        for path in FILES:
            self.assertRegex(path.name, r"^[a-z_][a-z0-9_]*\.py$")
            self.assertNotIn(path.stem, dir(builtins))

    def test_signs_and_sizes(self):
        for path in FILES:
            rows = path.read_text(encoding="ascii").split("\n")
            self.assertLessEqual(len(rows), 401, path)
            for row in rows:
                self.assertRegex(row, r"^[ -~]{0,120}$")

    def test_words_that_stand_nowhere(self):
        for path in FILES:
            for word in NOWHERE:
                self.assertIsNone(re.search(rf"\b{word}\b", path.read_text()), (path, word))
            self.assertNotRegex(path.read_text(), "dataclass|overload|contextmanager")

    def test_the_top_of_a_file(self):
        for path, tree in trees():
            self.assertIsNotNone(ast.get_docstring(tree), path)
            bound = []
            for node in tree.body[1:]:
                self.assertIsInstance(node, (ast.ImportFrom, ast.FunctionDef, ast.ClassDef, ast.Assign), path)
                if isinstance(node, ast.Assign):
                    self.assertTrue(is_plain(node.value), (path, node.lineno))
                    bound.append(node.targets[0].id)
                elif isinstance(node, ast.ImportFrom):
                    bound.extend(alias.name for alias in node.names)
                else:
                    bound.append(node.name)
            self.assertEqual(len(bound), len(set(bound)), path)


class Imports(unittest.TestCase):
    def drawn_from(self):
        return {path.stem: [node for node in tree.body if isinstance(node, ast.ImportFrom)] for path, tree in trees()}

    def test_from_the_very_file(self):
        defined = {path.stem: {node.name for node in tree.body if isinstance(node, (ast.FunctionDef, ast.ClassDef))}
                   | {node.targets[0].id for node in tree.body if isinstance(node, ast.Assign)}
                   for path, tree in trees()}
        for rows in self.drawn_from().values():
            for node in rows:
                self.assertEqual((node.level, node.module.split(".")[0]), (0, "stackwords"))
                for alias in node.names:
                    self.assertIsNone(alias.asname)
                    self.assertIn(alias.name, defined[node.module.split(".")[1]])

    def test_every_import_is_used(self):
        for path, tree in trees():
            used = {node.id for node in ast.walk(tree) if isinstance(node, ast.Name)}
            for node in self.drawn_from()[path.stem]:
                for alias in node.names:
                    self.assertIn(alias.name, used, path)

    def test_no_circle(self):
        left = {stem: {node.module.split(".")[1] for node in rows} for stem, rows in self.drawn_from().items()}
        while left:
            free = [stem for stem, others in left.items() if not others & set(left)]
            self.assertTrue(free, left)
            left = {stem: others for stem, others in left.items() if stem not in free}


class Code(unittest.TestCase):
    def test_statements_and_expressions(self):
        for path, node in nodes(ast.AST):
            where = (path.name, getattr(node, "lineno", None))
            if isinstance(node, ast.stmt):
                self.assertIsInstance(node, STATEMENTS, where)
            self.assertNotIsInstance(node, NEVER, where)
            if isinstance(node, ast.Expr) and node.lineno > 1:
                self.assertIsInstance(node.value, ast.Call, where)
            if isinstance(node, ast.Assign):
                self.assertEqual(len(node.targets), 1, where)
            if isinstance(node, (ast.For, ast.While)):
                self.assertEqual(node.orelse, [], where)
            if isinstance(node, ast.Try):
                self.assertEqual(node.finalbody, [], where)
            if isinstance(node, ast.Constant):
                self.assertNotIsInstance(node.value, (float, bytes, complex), where)
            if isinstance(node, ast.Constant) and isinstance(node.value, str):
                self.assertNotIn(chr(37), node.value, where)
            if isinstance(node, ast.ListComp):
                self.assertEqual((len(node.generators), len(node.generators[0].ifs) < 2), (1, True), where)
            if isinstance(node, ast.FormattedValue):
                self.assertIsInstance(node.value, ast.Name, where)

    def test_is_stands_beside_none_true_and_false(self):
        for path, node in nodes(ast.Compare):
            for operator, right in zip(node.ops, node.comparators):
                if isinstance(operator, (ast.Is, ast.IsNot)):
                    self.assertIsInstance(right, ast.Constant, (path, node.lineno))

    def test_functions(self):
        for path, node in nodes(ast.FunctionDef):
            where = (path.name, node.name)
            self.assertLessEqual(node.end_lineno - node.lineno + 1, 40, where)
            self.assertEqual(node.decorator_list, [], where)
            self.assertEqual((node.args.vararg, node.args.kwarg, node.args.kwonlyargs), (None, None, []), where)
            self.assertIsNone(node.returns, where)
            for parameter in node.args.args:
                self.assertIsNone(parameter.annotation, where)

    def test_classes(self):
        for path, node in nodes(ast.ClassDef):
            where = (path.name, node.name)
            self.assertLessEqual(len(node.bases), 1, where)
            self.assertEqual((node.decorator_list, node.keywords), ([], []), where)
            for part in node.body:
                self.assertIsInstance(part, ast.FunctionDef, where)

    def test_handlers(self):
        own = {node.name for _, node in nodes(ast.ClassDef)}
        for path, node in nodes(ast.ExceptHandler):
            self.assertIn(node.type.id, own | {"KeyError", "ZeroDivisionError", "StopIteration"}, (path, node.lineno))
        for path, node in nodes(ast.Raise):
            self.assertIsInstance(node.exc, ast.Call, (path, node.lineno))


class Names(unittest.TestCase):
    def test_plain_names(self):
        for path, node in nodes((ast.Name, ast.Attribute, ast.arg, ast.FunctionDef, ast.ClassDef)):
            name = [getattr(node, key) for key in ("id", "attr", "arg", "name") if hasattr(node, key)][0]
            if name not in WITH_UNDERSCORES:
                self.assertRegex(name, r"^[A-Za-z][A-Za-z0-9_]*$", (path, node.lineno))
            self.assertNotIn(name, NOT_NAMES, (path, node.lineno))

    def test_names_of_pythons_own(self):
        for path, node in nodes(ast.Name):
            if node.id in dir(builtins):
                self.assertIn(node.id, OWN_NAMES, (path, node.lineno))
                self.assertIsInstance(node.ctx, ast.Load, (path, node.lineno))
        for path, node in nodes(ast.arg):
            self.assertNotIn(node.arg, dir(builtins), (path, node.lineno))

    def test_no_local_hides_a_name_of_its_file(self):
        for path, tree in trees():
            tops = {alias.name for node in tree.body if isinstance(node, ast.ImportFrom) for alias in node.names}
            tops |= {node.name for node in tree.body if isinstance(node, (ast.ClassDef, ast.FunctionDef))}
            for node in ast.walk(tree):
                if isinstance(node, ast.arg):
                    self.assertNotIn(node.arg, tops, path)
                if isinstance(node, ast.Name) and isinstance(node.ctx, ast.Store):
                    self.assertNotIn(node.id, tops, path)

    def test_methods_that_are_called(self):
        for path, node in nodes(ast.Call):
            if isinstance(node.func, ast.Attribute) and node.func.attr != "__init__":
                self.assertIn(node.func.attr, METHODS | own_methods(), (path, node.lineno))

    def test_own_methods_and_values(self):
        self.assertEqual(own_methods() & values_given(), set())
        self.assertEqual((own_methods() - set(WITH_UNDERSCORES)) & BUILT_IN_VALUES, set())
        self.assertEqual(values_given() & BUILT_IN_VALUES, set())
