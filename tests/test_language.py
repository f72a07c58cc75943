"""The form of the package's files: those rules of the language that can be seen one by one."""

import ast
import builtins
import pathlib
import re
import unittest

PACKAGE = pathlib.Path(__file__).resolve().parent.parent / "twocommitted"
FILES = sorted(path for path in PACKAGE.rglob("*") if "__pycache__" not in path.parts)

STATEMENTS = (
    ast.Module, ast.FunctionDef, ast.ClassDef, ast.Return, ast.Assign, ast.AugAssign, ast.For, ast.While, ast.If,
    ast.Raise, ast.Try, ast.ImportFrom, ast.Expr, ast.Pass, ast.Break, ast.Continue)
EXPRESSIONS = (
    ast.BoolOp, ast.BinOp, ast.UnaryOp, ast.Lambda, ast.IfExp, ast.Dict, ast.Set, ast.ListComp, ast.Compare, ast.Call,
    ast.JoinedStr, ast.FormattedValue, ast.Constant, ast.Attribute, ast.Subscript, ast.Name, ast.List, ast.Tuple,
    ast.Slice)
NOT_OPERATORS = (ast.Div, ast.MatMult, ast.Pow)
BUILT_IN = set(
    "len range enumerate zip min max sum abs sorted reversed int str bool list tuple dict set isinstance ord repr any "
    "all divmod".split())
METHODS = set(
    "append clear copy count endswith extend find get index insert items join keys pop remove replace reverse "
    "setdefault split update values bit_length".split())
WORDS = (
    r"\b(type|typing|typing_extensions|enum|Enum|IntEnum|StrEnum|Flag|IntFlag|Generic|Protocol|ABC|ABCMeta|namedtuple"
    r"|NamedTuple|TypedDict|TYPE_CHECKING|abstractmethod)\b|dataclass|overload|contextmanager")
NEVER = {"register", "mro", "elements", "open", "input", "version_info", "with_traceback", "add_note", "format"}


def read_all():
    """Each file with its text and its tree."""
    texts = [(path, path.read_text(encoding="utf-8")) for path in FILES]
    return [(path, text, ast.parse(text, path.name)) for path, text in texts]


def names_bound(tree):
    """Every name that a file binds: at its top, as a parameter, as a local."""
    bound = set()
    for node in ast.walk(tree):
        if isinstance(node, (ast.FunctionDef, ast.ClassDef)):
            bound.add(node.name)
        if isinstance(node, ast.arg):
            bound.add(node.arg)
        if isinstance(node, ast.Name) and isinstance(node.ctx, ast.Store):
            bound.add(node.id)
        if isinstance(node, ast.ImportFrom):
            bound |= {alias.name for alias in node.names}
    return bound


class Form(unittest.TestCase):

    def test_files(self):
        self.assertIn(PACKAGE / "__init__.py", FILES)
        self.assertIn(PACKAGE / "talk.py", FILES)
        for path in FILES:
            self.assertRegex(path.name, r"^([a-z][a-z0-9_]*|__init__)\.py$")

    def test_signs_and_sizes(self):
        for path, text, tree in read_all():
            with self.subTest(path.name):
                self.assertRegex(text, r"\A[\n -~]*\Z")
                self.assertLessEqual(text.count("\n"), 400)
                self.assertLessEqual(max(len(row) for row in text.split("\n")), 120)
                self.assertIsNone(re.search(WORDS, text))
                for node in ast.walk(tree):
                    if isinstance(node, ast.FunctionDef):
                        self.assertLessEqual(node.end_lineno - node.lineno + 1, 40, node.name)

    def test_statements_and_expressions(self):
        for path, text, tree in read_all():
            with self.subTest(path.name):
                for node in ast.walk(tree):
                    if isinstance(node, ast.stmt):
                        self.assertIsInstance(node, STATEMENTS)
                    if isinstance(node, ast.expr):
                        self.assertIsInstance(node, EXPRESSIONS)
                    self.assertNotIsInstance(node, NOT_OPERATORS)
                    if isinstance(node, (ast.For, ast.While)):
                        self.assertEqual(node.orelse, [])
                    if isinstance(node, ast.Assign):
                        self.assertEqual(len(node.targets), 1)
                    if isinstance(node, ast.Constant):
                        self.assertIn(type(node.value), (int, str, bool, type(None)))

    def test_definitions(self):
        for path, text, tree in read_all():
            with self.subTest(path.name):
                for node in ast.walk(tree):
                    if isinstance(node, ast.FunctionDef):
                        given = node.args
                        self.assertEqual([given.vararg, given.kwarg], [None, None])
                        self.assertEqual(given.kwonlyargs + given.posonlyargs, [])
                        self.assertIsNone(node.returns)
                        self.assertEqual([arg.annotation for arg in given.args], [None] * len(given.args))
                    if isinstance(node, (ast.FunctionDef, ast.ClassDef)):
                        self.assertEqual(node.decorator_list, [])

    def test_imports(self):
        for path, text, tree in read_all():
            with self.subTest(path.name):
                for node in ast.walk(tree):
                    if isinstance(node, ast.ImportFrom):
                        self.assertIn(node, tree.body)
                        self.assertEqual(node.level, 0)
                        self.assertRegex(node.module, r"^twocommitted\.[a-z_]+$")
                        source = ast.parse((PACKAGE / (node.module.split(".")[1] + ".py")).read_text())
                        for alias in node.names:
                            self.assertIsNone(alias.asname)
                            self.assertIn(alias.name, self.names_at_top(source))

    def names_at_top(self, tree):
        names = {node.name for node in tree.body if isinstance(node, (ast.FunctionDef, ast.ClassDef))}
        return names | {node.targets[0].id for node in tree.body if isinstance(node, ast.Assign)}

    def test_the_top_of_a_file_holds_plain_values(self):
        for path, text, tree in read_all():
            with self.subTest(path.name):
                above = set()
                for node in tree.body:
                    if isinstance(node, ast.FunctionDef):
                        above.add(node.name)
                    if isinstance(node, ast.Assign):
                        names = {part.id for part in ast.walk(node.value) if isinstance(part, ast.Name)}
                        self.assertLessEqual(names, above)
                        self.assertFalse([part for part in ast.walk(node.value) if isinstance(part, ast.Call)])
                at_top = [node.targets[0].id for node in tree.body if isinstance(node, ast.Assign)]
                self.assertEqual(len(at_top), len(set(at_top)))

    def test_names(self):
        own = {"twocommitted"}
        for path, text, tree in read_all():
            own |= names_bound(tree)
        for path, text, tree in read_all():
            with self.subTest(path.name):
                for name in names_bound(tree) - {"__init__"}:
                    self.assertRegex(name, r"^[A-Za-z][A-Za-z0-9_]*$")
                    self.assertNotIn(name, BUILT_IN | NEVER)
                for node in ast.walk(tree):
                    if isinstance(node, ast.Name):
                        self.assertIn(node.id, names_bound(tree) | BUILT_IN)
                    if isinstance(node, ast.Attribute):
                        self.assertNotIn(node.attr, NEVER)
                    if isinstance(node, ast.Call) and isinstance(node.func, ast.Attribute):
                        self.assertIn(node.func.attr, own | METHODS)
                    if isinstance(node, ast.Compare) and isinstance(node.ops[0], (ast.Is, ast.IsNot)):
                        self.assertIsInstance(node.comparators[0], ast.Constant)


    def test_no_local_is_called_like_a_class_or_an_import(self):
        for path, text, tree in read_all():
            with self.subTest(path.name):
                taken = {node.name for node in tree.body if isinstance(node, ast.ClassDef)}
                taken |= {alias.name for node in tree.body if isinstance(node, ast.ImportFrom) for alias in node.names}
                for definition in ast.walk(tree):
                    if isinstance(definition, ast.FunctionDef):
                        self.assertFalse((names_bound(definition) - {definition.name}) & taken, definition.name)
                        self.assertFalse((names_bound(definition) - {"__init__"}) & set(dir(builtins)))

    def test_a_list_or_dict_at_the_top_holds_none(self):
        for path, text, tree in read_all():
            with self.subTest(path.name):
                for node in tree.body:
                    if isinstance(node, ast.Assign):
                        held = [part for part in ast.walk(node.value) if isinstance(part, (ast.List, ast.Dict))]
                        self.assertLessEqual(len(held), 1)
                        self.assertTrue(held in ([], [node.value]))


class Drawn(unittest.TestCase):

    def test_no_two_files_draw_from_one_another(self):
        drawn = {}
        for path in FILES:
            tree = ast.parse(path.read_text(encoding="utf-8"))
            drawn[path.stem] = {node.module.split(".")[1] for node in tree.body if isinstance(node, ast.ImportFrom)}
        while drawn:
            free = [name for name, sources in drawn.items() if not sources & set(drawn)]
            self.assertTrue(free, drawn)
            drawn = {name: sources for name, sources in drawn.items() if name not in free}
