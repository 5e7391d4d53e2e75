"""The form of the package's files, as far as a plain look at them tells."""

import ast
import builtins
import re
import unittest
from pathlib import Path

PACKAGE = Path(__file__).resolve().parent.parent / "likemarks"

BUILTINS = set(
    "len range enumerate zip min max sum abs sorted reversed int str bool list tuple dict set frozenset "
    "isinstance ord repr any all divmod Exception ValueError TypeError KeyError IndexError LookupError "
    "ZeroDivisionError ArithmeticError OverflowError RuntimeError NotImplementedError StopIteration".split()
)
METHODS = set(
    "append clear copy count endswith extend find get index insert isalnum isalpha isdigit islower isspace "
    "isupper items join keys ljust lower lstrip partition pop remove replace reverse rfind rjust rpartition "
    "rsplit rstrip setdefault split splitlines startswith strip update upper values zfill bit_length".split()
)
STATEMENTS = (
    ast.FunctionDef, ast.Assign, ast.AugAssign, ast.If, ast.While, ast.For, ast.Return, ast.Break,
    ast.Continue, ast.Pass, ast.Raise, ast.Expr,
)
WORDS = re.compile(
    r"\b(type|typing|typing_extensions|enum|Enum|IntEnum|StrEnum|Flag|IntFlag|Generic|Protocol|ABC|ABCMeta"
    r"|namedtuple|NamedTuple|TypedDict|TYPE_CHECKING|abstractmethod)\b|dataclass|overload|contextmanager"
)


def sources():
    return sorted(path for path in PACKAGE.rglob("*") if "__pycache__" not in path.parts)


class Form(unittest.TestCase):
    def test_only_plain_files_lie_in_the_package(self):
        self.assertEqual([path.name for path in sources()], ["__init__.py", "judges.py"])

    def test_signs_and_size(self):
        for path in sources():
            text = path.read_bytes().decode("ascii")
            self.assertRegex(text, r"\A[\n -~]*\Z")
            self.assertIsNone(WORDS.search(text))
            self.assertLessEqual(len(text.splitlines()), 400)
            self.assertLessEqual(max(len(row) for row in text.splitlines()), 120)

    def test_functions_are_small_and_plain(self):
        for node in self.nodes(ast.FunctionDef):
            self.assertLessEqual(node.end_lineno - node.lineno + 1, 40, node.name)
            given = node.args
            self.assertEqual(
                (given.vararg, given.kwarg, given.kwonlyargs, given.posonlyargs, node.decorator_list),
                (None, None, [], [], []),
            )

    def test_statements(self):
        for node in self.nodes(ast.stmt):
            self.assertIsInstance(node, STATEMENTS)
            if isinstance(node, ast.Assign):
                self.assertEqual(len(node.targets), 1)
                self.assertNotIsInstance(node.targets[0], (ast.Tuple, ast.List))
            if isinstance(node, (ast.For, ast.While)):
                self.assertEqual(node.orelse, [])

    def test_values(self):
        for node in self.nodes(ast.Constant):
            self.assertIn(type(node.value), (int, str, bool, type(None)))
        for node in self.nodes(ast.operator):
            self.assertNotIsInstance(node, (ast.Div, ast.MatMult))
        self.assertEqual(self.nodes((
            ast.DictComp, ast.SetComp, ast.GeneratorExp, ast.NamedExpr, ast.Starred, ast.Set, ast.Is, ast.IsNot,
        )), [])

    def test_names(self):
        for node in self.nodes(ast.Name):
            self.assertRegex(node.id, r"\A[A-Za-z][A-Za-z0-9_]*\Z")
            if hasattr(builtins, node.id):
                self.assertIn(node.id, BUILTINS)
                self.assertIsInstance(node.ctx, ast.Load)
        for node in self.nodes(ast.arg):
            self.assertFalse(hasattr(builtins, node.arg), node.arg)
        for node in self.nodes(ast.Attribute):
            self.assertIn(node.attr, METHODS)

    def test_keywords_and_sets(self):
        keywords = {"sorted": ("key", "reverse"), "min": ("key", "default"), "max": ("key", "default")}
        for node in self.nodes(ast.Call):
            name = node.func.id if isinstance(node.func, ast.Name) else ""
            for keyword in node.keywords:
                self.assertIn(keyword.arg, keywords.get(name, ()))
        # Each set stands straight within sorted or len.
        names = [node for node in self.nodes(ast.Name) if node.id in ("set", "frozenset")]
        walked = [
            node for node in self.nodes(ast.Call)
            if isinstance(node.func, ast.Name) and node.func.id in ("sorted", "len") and not node.keywords
            and isinstance(node.args[0], ast.Call) and isinstance(node.args[0].func, ast.Name)
            and node.args[0].func.id in ("set", "frozenset")
        ]
        self.assertEqual(len(names), len(walked))

    def nodes(self, kind):
        found = []
        for path in sources():
            found.extend(node for node in ast.walk(ast.parse(path.read_text())) if isinstance(node, kind))
        return found


if __name__ == "__main__":
    unittest.main()
