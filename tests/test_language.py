"""That the package's files keep to the rules of its language that can be read off a file."""

import ast
import builtins
import re
import unittest
from pathlib import Path

PACKAGE = Path(__file__).resolve().parent.parent / "voicesounds"
NODES = (
    ast.Module, ast.Expr, ast.ImportFrom, ast.alias, ast.FunctionDef, ast.arguments, ast.arg, ast.ClassDef,
    ast.Assign, ast.AugAssign, ast.If, ast.While, ast.For, ast.Return, ast.Break, ast.Continue, ast.Pass, ast.Raise,
    ast.Try, ast.ExceptHandler, ast.Constant, ast.List, ast.Tuple, ast.Dict, ast.BinOp, ast.UnaryOp, ast.BoolOp,
    ast.Compare, ast.IfExp, ast.Call, ast.keyword, ast.Attribute, ast.Subscript, ast.Slice, ast.ListComp,
    ast.comprehension, ast.Name, ast.expr_context, ast.operator, ast.unaryop, ast.boolop, ast.cmpop,
)
WORDS = re.compile(
    r"\b(type|typing|typing_extensions|enum|Enum|IntEnum|StrEnum|Flag|IntFlag|Generic|Protocol|ABC|ABCMeta|namedtuple"
    r"|NamedTuple|TypedDict|TYPE_CHECKING|abstractmethod)\b"
    r"|dataclass|overload|contextmanager"
)
BUILT_IN = (
    "len range enumerate zip min max sum abs sorted reversed int str bool list tuple dict isinstance any all divmod"
    " ValueError KeyError"
).split()

METHODS = (
    "append clear copy count endswith extend find get index insert items join keys pop remove replace reverse"
    " setdefault split startswith strip update values bit_length"
).split()


def sources():
    return [(path, path.read_text(encoding="utf-8")) for path in sorted(PACKAGE.rglob("*.py"))]


def nodes(source):
    return list(ast.walk(ast.parse(source)))


def names(source):
    found = []
    for node in nodes(source):
        found += [getattr(node, field) for field in ("id", "attr", "arg", "name") if hasattr(node, field)]
    return [name for name in found if name]


def is_plain(value, functions):
    """A written value, or a list, tuple or dict of such and of functions defined above."""
    if isinstance(value, ast.UnaryOp):
        value = value.operand
    if isinstance(value, (ast.List, ast.Tuple)):
        return all(is_plain(part, functions) for part in value.elts)
    if isinstance(value, ast.Dict):
        return all(is_plain(part, functions) for part in value.keys + value.values)
    return isinstance(value, ast.Constant) or isinstance(value, ast.Name) and value.id in functions


def drawn_from(source):
    return [node.module.split(".")[1] for node in nodes(source) if isinstance(node, ast.ImportFrom)]


class Language(unittest.TestCase):
    def each(self, holds):
        self.assertTrue(sources())
        for path, source in sources():
            with self.subTest(file=path.name):
                holds(path, source)

    def test_files(self):
        kept = [path for path in PACKAGE.rglob("*") if "__pycache__" not in path.parts]
        self.assertEqual([path.name for path in kept if not re.fullmatch(r"[a-z0-9_]+\.py", path.name)], [])
        self.assertIn(PACKAGE / "__init__.py", kept)

    def test_size_and_signs(self):
        def holds(path, source):
            self.assertRegex(source, r"\A[ -~\n]*\Z")
            self.assertLessEqual(len(source.splitlines()), 400)
            self.assertLessEqual(max(len(row) for row in source.splitlines()), 120)
            for node in nodes(source):
                if isinstance(node, ast.FunctionDef):
                    self.assertLessEqual(node.end_lineno - node.lineno + 1, 40, node.name)
        self.each(holds)

    def test_words(self):
        self.each(lambda path, source: self.assertNotRegex(source, WORDS))

    def test_forms(self):
        def holds(path, source):
            for node in nodes(source):
                self.assertIsInstance(node, NODES)
                self.assertNotIsInstance(node, ast.Div)
                if isinstance(node, ast.Constant):
                    self.assertNotIsInstance(node.value, (float, bytes))
        self.each(holds)

    def test_imports(self):
        def holds(path, source):
            for node in nodes(source):
                if isinstance(node, ast.ImportFrom):
                    self.assertEqual(node.level, 0)
                    self.assertTrue(node.module.startswith("voicesounds."), node.module)
        self.each(holds)

    def test_no_two_files_draw_from_one_another(self):
        left = {path.stem: drawn_from(source) for path, source in sources()}
        while left:
            free = [name for name, drawn in left.items() if not set(drawn) & set(left)]
            self.assertTrue(free, left)
            left = {name: drawn for name, drawn in left.items() if name not in free}

    def test_the_top_of_a_file(self):
        def holds(path, source):
            functions = []
            bound = []
            for node in ast.parse(source).body:
                if isinstance(node, ast.FunctionDef):
                    functions.append(node.name)
                if isinstance(node, ast.Assign):
                    self.assertTrue(is_plain(node.value, functions), node.lineno)
                bound += [target.id for target in getattr(node, "targets", [])] + [getattr(node, "name", node)]
            self.assertEqual(len(bound), len(set(bound)))
        self.each(holds)

    def test_powers_have_a_written_exponent(self):
        def holds(path, source):
            for node in nodes(source):
                if isinstance(node, ast.BinOp) and isinstance(node.op, ast.Pow):
                    self.assertIn(getattr(node.right, "value", None), range(65))
        self.each(holds)

    def test_methods(self):
        def holds(path, source):
            for node in nodes(source):
                if isinstance(node, ast.Call) and isinstance(node.func, ast.Attribute):
                    self.assertIn(node.func.attr, METHODS)
                self.assertNotIsInstance(node, (ast.Is, ast.IsNot))
        self.each(holds)

    def test_names_of_pythons_own(self):
        def holds(path, source):
            for name in names(source):
                if name in dir(builtins):
                    self.assertIn(name, BUILT_IN)
        self.each(holds)

    def test_no_name_begins_with_an_underscore(self):
        def holds(path, source):
            for name in names(source):
                self.assertTrue(name == "__init__" or not name.startswith("_"), name)
        self.each(holds)


if __name__ == "__main__":
    unittest.main()
