"""What of ../shared/LANGUAGE.md can be seen by a walk through the package's files. The rest is for the reader."""

import ast
import builtins
import pathlib
import re
import unittest

ROOT = pathlib.Path(__file__).resolve().parent.parent
PACKAGE = ROOT / "mostcell"
FILES = sorted(PACKAGE.rglob("*.py"))
DEFS = (ast.FunctionDef, ast.Lambda)

# L6 and L7: what is not named there is out.
ALLOWED = (
    ast.Module, ast.FunctionDef, ast.ClassDef, ast.ImportFrom, ast.Assign, ast.AugAssign, ast.If, ast.While, ast.For,
    ast.Return, ast.Break, ast.Continue, ast.Pass, ast.Raise, ast.Try, ast.ExceptHandler, ast.Expr, ast.Constant,
    ast.Name, ast.Attribute, ast.Subscript, ast.Slice, ast.List, ast.Tuple, ast.Dict, ast.Set, ast.BinOp, ast.UnaryOp,
    ast.BoolOp, ast.Compare, ast.IfExp, ast.Call, ast.ListComp, ast.comprehension, ast.JoinedStr, ast.FormattedValue,
    ast.Lambda, ast.arguments, ast.arg, ast.alias, ast.keyword, ast.expr_context, ast.operator, ast.unaryop,
    ast.boolop, ast.cmpop,
)
PYTHONS_OWN = set("""
    len range enumerate zip min max sum abs sorted reversed int str bool list tuple dict set frozenset isinstance ord
    repr any all divmod Exception ValueError TypeError KeyError IndexError LookupError ZeroDivisionError
    ArithmeticError OverflowError RuntimeError NotImplementedError AttributeError StopIteration
""".split())
UNUSED_NAMES = set("""
    register mro elements open input version_info with_traceback add_note attrgetter breakpoint builtins compile
    copyright credits delattr dir eval exec exit gc getattr globals hasattr help id importlib license locals
    methodcaller os quit setattr super type vars sys format format_map
""".split())
UNUSED_WORDS = re.compile(
    r"\b(type|typing|typing_extensions|enum|Enum|IntEnum|StrEnum|Flag|IntFlag|Generic|Protocol|ABC|ABCMeta|namedtuple"
    r"|NamedTuple|TypedDict|TYPE_CHECKING|abstractmethod)\b|dataclass|overload|contextmanager"
)
METHODS_WITH_TWO = ("__init__", "__eq__", "__repr__", "__str__", "__len__")


def names_of(tree):
    """All names that stand in a file, however they stand there."""
    for node in ast.walk(tree):
        for field in ("id", "attr", "arg", "name"):
            name = getattr(node, field, None)
            if isinstance(name, str) and not isinstance(node, ast.alias):
                yield name


def top_names(tree):
    """The names that a file binds at its top."""
    names = []
    for node in tree.body:
        if isinstance(node, (ast.FunctionDef, ast.ClassDef)):
            names.append(node.name)
        elif isinstance(node, ast.Assign):
            names += [target.id for target in node.targets]
        elif isinstance(node, ast.ImportFrom):
            names += [alias.name for alias in node.names]
    return names


def trees():
    """The tree of every file of the package."""
    return [ast.parse(path.read_text(encoding="utf-8")) for path in FILES]


def in_each_file(check):
    """A test that makes a check, which takes a file's text and tree, for every file of the package."""
    def test(self):
        self.assertTrue(FILES)
        for path in FILES:
            text = path.read_text(encoding="utf-8")
            with self.subTest(file=path.name):
                check(self, text, ast.parse(text))
    return test


class Language(unittest.TestCase):
    def test_files(self):
        for path in PACKAGE.rglob("*"):
            if "__pycache__" not in path.parts:
                with self.subTest(path=path.name):
                    self.assertRegex(path.name, r"^(__init__|__main__|[a-z][a-z0-9_]*)\.py$")
        self.assertTrue((PACKAGE / "__init__.py").is_file())

    @in_each_file
    def test_signs_and_sizes(self, text, tree):
        self.assertRegex(text, r"\A[ -~\n]*\Z")
        rows = text.splitlines()
        self.assertLessEqual(len(rows), 399)
        self.assertLessEqual(max(len(row) for row in rows), 120)
        for node in ast.walk(tree):
            if isinstance(node, ast.FunctionDef):
                self.assertLessEqual(node.end_lineno - node.lineno + 1, 40, node.name)

    @in_each_file
    def test_words(self, text, tree):
        self.assertIsNone(UNUSED_WORDS.search(text))

    @in_each_file
    def test_top_of_a_file(self, text, tree):
        self.assertIsNotNone(ast.get_docstring(tree))
        for node in tree.body[1:]:
            self.assertIsInstance(node, (ast.ImportFrom, ast.FunctionDef, ast.ClassDef, ast.Assign))
        names = top_names(tree)
        self.assertEqual(sorted(names), sorted(set(names)))

    @in_each_file
    def test_imports(self, text, tree):
        for node in ast.walk(tree):
            if isinstance(node, ast.ImportFrom):
                self.assertEqual(node.level, 0)
                self.assertTrue(node.module.startswith("mostcell."), node.module)
                source = ROOT / (node.module.replace(".", "/") + ".py")
                theirs = ast.parse(source.read_text(encoding="utf-8"))
                own = [n for part in theirs.body if not isinstance(part, ast.ImportFrom)
                       for n in top_names(ast.Module([part], []))]
                for alias in node.names:
                    self.assertIn(alias.name, own)
                    self.assertIsNone(alias.asname)

    @in_each_file
    def test_forms(self, text, tree):
        for node in ast.walk(tree):
            self.assertIsInstance(node, ALLOWED, f"row {getattr(node, 'lineno', 0)}")
            self.assertNotIsInstance(node, (ast.Div, ast.MatMult))
            if isinstance(node, ast.Constant):
                self.assertIn(node.value.__class__, (int, str, bool, None.__class__))
            if isinstance(node, ast.Assign):
                self.assertEqual(len(node.targets), 1)
            if isinstance(node, (ast.For, ast.While)):
                self.assertEqual(node.orelse, [])
            if isinstance(node, ast.ListComp):
                self.assertEqual(len(node.generators), 1)
                self.assertLessEqual(len(node.generators[0].ifs), 1)
            if isinstance(node, DEFS):
                self.assertIsNone(node.args.vararg or node.args.kwarg)
                self.assertEqual(node.args.kwonlyargs + node.args.posonlyargs, [])
            if isinstance(node, (ast.FunctionDef, ast.ClassDef)):
                self.assertEqual(node.decorator_list, [])

    @in_each_file
    def test_names(self, text, tree):
        theirs = set(dir(builtins))
        for name in names_of(tree):
            self.assertNotIn(name, UNUSED_NAMES)
            if name not in METHODS_WITH_TWO:
                self.assertRegex(name, r"^[A-Za-z][A-Za-z0-9_]*$")
        for node in ast.walk(tree):
            if isinstance(node, ast.Name):
                self.assertTrue(node.id not in theirs or node.id in PYTHONS_OWN, node.id)
                if isinstance(node.ctx, ast.Store):
                    self.assertNotIn(node.id, theirs)
            if isinstance(node, ast.arg):
                self.assertNotIn(node.arg, theirs)

    def test_methods_and_values_are_apart(self):
        methods, values = set(), set()
        for tree in trees():
            for node in ast.walk(tree):
                if isinstance(node, ast.ClassDef):
                    own = [part.name for part in node.body if isinstance(part, ast.FunctionDef)]
                    self.assertEqual(len(own), len(set(own)))
                    methods.update(own)
                if isinstance(node, ast.Attribute) and isinstance(node.ctx, ast.Store):
                    values.add(node.attr)
        self.assertEqual(methods & values, set())

    def test_function_of_the_interface(self):
        places = [path.name for path, tree in zip(FILES, trees()) for node in tree.body
                  if isinstance(node, (ast.FunctionDef, ast.ClassDef)) and node.name == "answers"]
        self.assertEqual(places, ["cell.py"])
