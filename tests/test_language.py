"""The package keeps to LANGUAGE.md, as far as a look at the code can tell."""

import ast
import builtins
import os
import re
import unittest

PACKAGE = os.path.join(os.path.dirname(os.path.dirname(os.path.abspath(__file__))), "termpairs")
OWN_NAMES = set(
    "len range enumerate zip min max sum abs sorted reversed int str bool list tuple dict set frozenset isinstance ord "
    "repr any all divmod Exception ValueError TypeError KeyError IndexError LookupError ZeroDivisionError "
    "ArithmeticError OverflowError RuntimeError NotImplementedError AttributeError StopIteration".split())
OWN_METHODS = set(
    "append clear copy count endswith extend find get index insert isalnum isalpha isdigit islower isspace isupper items "
    "join keys ljust lower lstrip partition pop remove replace reverse rfind rjust rpartition rsplit rstrip setdefault "
    "split splitlines startswith strip update upper values zfill bit_length".split())
STATEMENTS = (ast.Assign, ast.AugAssign, ast.If, ast.While, ast.For, ast.Return, ast.Break, ast.Continue, ast.Pass,
              ast.Raise, ast.Try, ast.Expr, ast.FunctionDef, ast.ClassDef, ast.ImportFrom)
BARRED = (ast.GeneratorExp, ast.SetComp, ast.DictComp, ast.NamedExpr, ast.Starred, ast.Set, ast.Div, ast.Await,
          ast.Yield, ast.YieldFrom, ast.AnnAssign, ast.MatMult)
WALKED = ("zip", "enumerate", "reversed", "range")
WALKERS = ("list", "tuple", "dict", "sorted", "sum", "any", "all", "enumerate", "zip", "min", "max")
BARRED_WORDS = re.compile(
    r"\b(type|typing|typing_extensions|enum|Enum|IntEnum|StrEnum|Flag|IntFlag|Generic|Protocol|ABC|ABCMeta|namedtuple|"
    r"NamedTuple|TypedDict|TYPE_CHECKING|abstractmethod)\b|"
    r"dataclass|overload|contextmanager")
BARRED_NAMES = {"register", "mro", "elements", "open", "input", "version_info", "with_traceback", "add_note", "format",
                "attrgetter", "os", "sys", "gc", "importlib", "methodcaller", "builtins"}
PYTHONS_OWN = set(dir(builtins))
VALUE_NAMES = set(name for value in ("", 0, [], {}, set(), b"", ()) for name in dir(value))


def sources():
    for name in sorted(os.listdir(PACKAGE)):
        if name != "__pycache__":
            with open(os.path.join(PACKAGE, name), "rb") as file:
                yield name, file.read().decode("ascii")


def bound_names(tree):
    for node in ast.walk(tree):
        if isinstance(node, ast.Name) and not isinstance(node.ctx, ast.Load):
            yield node.id
        elif isinstance(node, ast.arg):
            yield node.arg
        elif isinstance(node, ast.ExceptHandler) and node.name:
            yield node.name


def top_names(tree):
    for node in tree.body:
        if isinstance(node, (ast.FunctionDef, ast.ClassDef)):
            yield node.name
        elif isinstance(node, ast.ImportFrom):
            yield from (alias.name for alias in node.names)
        elif isinstance(node, ast.Assign):
            yield node.targets[0].id


class Language(unittest.TestCase):
    def setUp(self):
        self.files = [(name, text, ast.parse(text)) for name, text in sources()]

    def each(self, *kinds):
        for name, text, tree in self.files:
            for node in ast.walk(tree):
                if isinstance(node, kinds):
                    with self.subTest(file=name, line=getattr(node, "lineno", 0)):
                        yield node

    def test_files(self):
        for name, text, tree in self.files:
            self.assertRegex(name, r"^([a-z][a-z0-9_]*|__init__)\.py$")
            self.assertNotIn(name[:-3], PYTHONS_OWN)
            self.assertLessEqual(len(text.split("\n")), 400)
            self.assertRegex(text, r"\A[ -~\n]*\Z")
            self.assertLessEqual(max(len(line) for line in text.split("\n")), 120)
            self.assertIsNone(BARRED_WORDS.search(text), name)

    def test_no_two_files_draw_from_one_another(self):
        drawn = {}
        for name, text, tree in self.files:
            drawn[name[:-3]] = set()
            for node in tree.body:
                if isinstance(node, ast.ImportFrom):
                    self.assertEqual((node.level, node.module.split(".")[0]), (0, "termpairs"))
                    drawn[name[:-3]].add(node.module.split(".")[1])
        self.assertEqual(drawn["__init__"], set())
        while drawn:
            free = [name for name in drawn if not drawn[name] & set(drawn)]
            self.assertTrue(free, drawn)
            for name in free:
                drawn.pop(name)

    def test_imports_come_from_the_file_that_defines(self):
        defined = {name[:-3]: [found.name for found in tree.body if isinstance(found, (ast.FunctionDef, ast.ClassDef))]
                   + [found.targets[0].id for found in tree.body if isinstance(found, ast.Assign)]
                   for name, text, tree in self.files}
        for node in self.each(ast.ImportFrom):
            for alias in node.names:
                self.assertIsNone(alias.asname)
                self.assertIn(alias.name, defined[node.module.split(".")[1]])

    def test_statements(self):
        for node in self.each(ast.stmt):
            self.assertIsInstance(node, STATEMENTS)
            if isinstance(node, ast.Assign):
                self.assertEqual(len(node.targets), 1)
                self.assertNotIsInstance(node.targets[0], (ast.Tuple, ast.List))
            if isinstance(node, (ast.For, ast.While)):
                self.assertEqual(node.orelse, [])
            if isinstance(node, ast.Try):
                self.assertEqual(node.finalbody, [])
            if isinstance(node, ast.Expr):
                self.assertIsInstance(node.value, (ast.Call, ast.Constant))

    def test_expressions(self):
        for node in self.each(*BARRED):
            self.fail(ast.dump(node))
        for node in self.each(ast.ListComp):
            self.assertEqual(len(node.generators), 1)
            self.assertLessEqual(len(node.generators[0].ifs), 1)
        for node in self.each(ast.Constant):
            self.assertNotIsInstance(node.value, (float, bytes, complex))
            if isinstance(node.value, str):
                self.assertNotIn("%", node.value)
        for node in self.each(ast.FormattedValue):
            self.assertIsInstance(node.value, ast.Name)
            self.assertIsNone(node.format_spec)
        for node in self.each(ast.Compare):
            if any(isinstance(found, (ast.Is, ast.IsNot)) for found in node.ops):
                self.assertIsNone(node.comparators[0].value)

    def test_functions_and_classes(self):
        for node in self.each(ast.FunctionDef):
            self.assertLessEqual(node.end_lineno - node.lineno + 1, 40)
            given = node.args
            self.assertEqual((given.vararg, given.kwarg, given.kwonlyargs, given.posonlyargs), (None, None, [], []))
            self.assertEqual(node.decorator_list, [])
            self.assertIsNone(node.returns)
            self.assertTrue(all(arg.annotation is None for arg in given.args))
        for node in self.each(ast.ClassDef):
            self.assertLessEqual(len(node.bases), 1)
            self.assertTrue(ast.get_docstring(node))
            for found in node.body[1:]:
                self.assertIsInstance(found, ast.FunctionDef)

    def test_names(self):
        for name, text, tree in self.files:
            tops = list(top_names(tree))
            self.assertEqual(len(tops), len(set(tops)), name)
            imported = [alias.name for node in tree.body if isinstance(node, ast.ImportFrom) for alias in node.names]
            classes = [node.name for node in tree.body if isinstance(node, ast.ClassDef)]
            for found in bound_names(tree):
                self.assertRegex(found, r"^[A-Za-z][A-Za-z0-9_]*$")
                self.assertNotIn(found, PYTHONS_OWN)
                self.assertNotIn(found, imported + classes)
                self.assertNotIn(found, BARRED_NAMES)
            bound = set(bound_names(tree)) | set(tops)
            for node in ast.walk(tree):
                if isinstance(node, ast.Name) and isinstance(node.ctx, ast.Load) and node.id not in bound:
                    self.assertIn(node.id, OWN_NAMES)

    def test_methods_and_values(self):
        methods = set()
        values = set()
        for node in self.each(ast.ClassDef):
            methods |= set(found.name for found in node.body if isinstance(found, ast.FunctionDef)) - {"__init__"}
        for node in self.each(ast.Attribute):
            if not isinstance(node.ctx, ast.Load):
                values.add(node.attr)
        self.assertEqual(methods & values, set())
        self.assertEqual((methods | values) & (VALUE_NAMES | BARRED_NAMES), set())
        called = [node.func for node in self.each(ast.Call)]
        for node in self.each(ast.Attribute):
            self.assertIn(node.attr, methods | values | OWN_METHODS)
            if node.attr in (methods | OWN_METHODS) - values:
                self.assertIn(node, called)

    def test_walked_at_once(self):
        allowed = set()
        for node in self.each(ast.For, ast.comprehension):
            allowed.add(node.iter)
        for node in self.each(ast.Call):
            if isinstance(node.func, ast.Name) and node.func.id in WALKERS:
                allowed |= set(node.args)
        for node in self.each(ast.Call):
            if isinstance(node.func, ast.Name) and node.func.id in WALKED:
                self.assertIn(node, allowed)
            if isinstance(node.func, ast.Attribute) and node.func.attr in ("items", "keys", "values"):
                self.assertIn(node, allowed)

    def test_sets_and_keywords(self):
        within = [node.args[0] for node in self.each(ast.Call)
                  if isinstance(node.func, ast.Name) and node.func.id in ("sorted", "len")]
        for node in self.each(ast.Call):
            if isinstance(node.func, ast.Name) and node.func.id in ("set", "frozenset"):
                self.assertIn(node, within)
            self.assertEqual(node.keywords, [])

    def test_handlers(self):
        for node in self.each(ast.ExceptHandler):
            self.assertIn(node.type.id, ("OutOfRange", "NotWellMade", "TooGreat", "TooLong"))
        for node in self.each(ast.Raise):
            self.assertIsInstance(node.exc, ast.Call)

    def test_the_top_of_a_file(self):
        for name, text, tree in self.files:
            self.assertTrue(ast.get_docstring(tree), name)
            for node in tree.body[1:]:
                self.assertIsInstance(node, (ast.ImportFrom, ast.FunctionDef, ast.ClassDef, ast.Assign))
                if isinstance(node, ast.Assign):
                    ast.literal_eval(node.value)


if __name__ == "__main__":
    unittest.main()
