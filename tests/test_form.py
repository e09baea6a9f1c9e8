"""The package's form: what of ../shared/LANGUAGE.md can be seen file by file, and the calls' names and arguments."""

import ast
import builtins
import inspect
import pathlib
import re
import unittest

from chancehalldesk import desk

PACKAGE = pathlib.Path(__file__).resolve().parent.parent / "chancehalldesk"

OWN_NAMES = set("""len range enumerate zip min max sum abs sorted reversed int str bool list tuple dict set frozenset
    isinstance ord repr any all divmod Exception ValueError TypeError KeyError IndexError LookupError
    ZeroDivisionError ArithmeticError OverflowError RuntimeError NotImplementedError AttributeError
    StopIteration""".split())
METHODS = set("""append clear copy count endswith extend find get index insert isalnum isalpha isdigit islower isspace
    isupper items join keys ljust lower lstrip partition pop remove replace reverse rfind rjust rpartition rsplit
    rstrip setdefault split splitlines startswith strip update upper values zfill bit_length""".split())
NODES = """Module FunctionDef arguments arg ClassDef Return Assign AugAssign For While If Raise Try ExceptHandler
    ImportFrom alias Expr Pass Break Continue BoolOp And Or BinOp Add Sub Mult FloorDiv Mod Pow LShift RShift BitOr
    BitXor BitAnd UnaryOp Not USub Invert Lambda IfExp Dict ListComp comprehension Compare Eq NotEq Lt LtE Gt GtE Is
    IsNot In NotIn Call keyword JoinedStr FormattedValue Constant Attribute Subscript Name Load Store List Tuple
    Slice""".split()
OUTLAWED_WORDS = re.compile(r"\b(type|typing|typing_extensions|enum|Enum|IntEnum|StrEnum|Flag|IntFlag|Generic|Protocol"
                            r"|ABC|ABCMeta|namedtuple|NamedTuple|TypedDict|TYPE_CHECKING|abstractmethod)\b"
                            r"|dataclass|overload|contextmanager")
CALLS = {
    "order": "pool card money row",
    "any_of": "pool card money row",
    "more": "over under other_over other_under",
    "sum_of": "over under other_over other_under",
    "fair": "over under unit",
}


class Form(unittest.TestCase):
    def setUp(self):
        files = [file for file in sorted(PACKAGE.rglob("*")) if "__pycache__" not in file.parts]
        self.sources = {file.name: file.read_bytes().decode("ascii") for file in files}
        self.trees = {name: ast.parse(source) for name, source in self.sources.items()}

    def nodes(self, *kinds):
        return [(name, node) for name, tree in self.trees.items() for node in ast.walk(tree)
                if isinstance(node, kinds)]

    def test_files(self):
        self.assertIn("__init__.py", self.sources)
        for name in self.sources:
            self.assertRegex(name, r"^(__init__|[a-z][a-z0-9_]*)\.py$")

    def test_signs_and_sizes(self):
        for name, source in self.sources.items():
            self.assertRegex(source, r"^[ -~\n]*\Z", name)
            self.assertIsNone(OUTLAWED_WORDS.search(source), name)
            self.assertLessEqual(source.count("\n"), 400, name)
            self.assertLessEqual(max(len(line) for line in source.split("\n")), 120, name)
        for name, node in self.nodes(ast.FunctionDef):
            self.assertLessEqual(node.end_lineno - node.lineno + 1, 40, (name, node.name))
            self.assertEqual(node.decorator_list, [])

    def test_statements_and_expressions(self):
        for name, node in self.nodes(ast.AST):
            self.assertIn(node.__class__.__name__, NODES, (name, getattr(node, "lineno", 0)))
        for name, node in self.nodes(ast.Constant):
            self.assertIn(node.value.__class__, (int, str, bool, None.__class__), name)
        for name, node in self.nodes(ast.Assign):
            self.assertEqual(len(node.targets), 1, (name, node.lineno))
        for name, node in self.nodes(ast.For, ast.While, ast.Try):
            if not isinstance(node, ast.Try):
                self.assertEqual(node.orelse, [], (name, node.lineno))
            else:
                self.assertEqual(node.finalbody, [], (name, node.lineno))

    def test_imports(self):
        for name, node in self.nodes(ast.ImportFrom):
            self.assertEqual((node.level, node.module.split(".")[0]), (0, "chancehalldesk"), name)
            self.assertIn(node, self.trees[name].body)
            self.assertNotIn("*", [alias.name for alias in node.names])

    def test_names(self):
        foreign = set(dir(builtins)) - OWN_NAMES
        bound = [node.arg for name, node in self.nodes(ast.arg)]
        bound += [node.id for name, node in self.nodes(ast.Name) if isinstance(node.ctx, ast.Store)]
        bound += [node.name for name, node in self.nodes(ast.FunctionDef, ast.ClassDef) if node.name != "__init__"]
        for word in bound:
            self.assertNotIn(word, dir(builtins))
            self.assertRegex(word, r"^[A-Za-z][A-Za-z0-9_]*$")
        for name, node in self.nodes(ast.Name):
            self.assertNotIn(node.id, foreign, (name, node.lineno))

    def test_methods(self):
        own = {node.name for name, node in self.nodes(ast.FunctionDef)}
        for name, node in self.nodes(ast.Call):
            if isinstance(node.func, ast.Attribute):
                self.assertIn(node.func.attr, METHODS | own, (name, node.lineno))

    def test_calls_as_the_document_names_them(self):
        for name, arguments in CALLS.items():
            self.assertEqual(list(inspect.signature(getattr(desk, name)).parameters), arguments.split())


if __name__ == "__main__":
    unittest.main()
