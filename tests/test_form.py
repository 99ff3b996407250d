"""The package's form: the part of ../shared/LANGUAGE.md that can be seen in a syntax tree."""

import ast
import builtins
import pathlib
import re
import unittest

PACKAGE = pathlib.Path(__file__).resolve().parent.parent / "changechoosing"

# L8, without print (there is no __main__.py) and chr (L27).
OWN_NAMES = set("""
    len range enumerate zip min max sum abs sorted reversed int str bool list tuple dict set frozenset isinstance
    ord repr any all divmod Exception ValueError TypeError KeyError IndexError LookupError ZeroDivisionError
    ArithmeticError OverflowError RuntimeError NotImplementedError AttributeError StopIteration
""".split())

# L25, and the values that this program's own objects keep.
ATTRIBUTES = set("""
    append clear copy count endswith extend find get index insert isalnum isalpha isdigit islower isspace isupper
    items join keys ljust lower lstrip partition pop remove replace reverse rfind rjust rpartition rsplit rstrip
    setdefault split splitlines startswith strip update upper values zfill bit_length
    started first second away back share
""".split())

# L17: words that stand nowhere in a file, remarks and texts too.
WORDS = r"""\b(type|typing|typing_extensions|enum|Enum|IntEnum|StrEnum|Flag|IntFlag|Generic|Protocol|ABC|ABCMeta|
    namedtuple|NamedTuple|TypedDict|TYPE_CHECKING|abstractmethod)\b|dataclass|overload|contextmanager"""

FORBIDDEN = (
    ast.Import, ast.ImportFrom, ast.AnnAssign, ast.With, ast.Match, ast.Delete, ast.Global, ast.Nonlocal, ast.Assert,
    ast.Yield, ast.YieldFrom, ast.Await, ast.AsyncFunctionDef, ast.AsyncFor, ast.AsyncWith, ast.Starred,
    ast.NamedExpr, ast.Set, ast.SetComp, ast.DictComp, ast.GeneratorExp, ast.Div, ast.MatMult, ast.Is, ast.IsNot,
)


def sources():
    return sorted(path for path in PACKAGE.rglob("*") if path.is_file() and "__pycache__" not in path.parts)


class Form(unittest.TestCase):
    def test_files(self):
        self.assertEqual([path.relative_to(PACKAGE).as_posix() for path in sources()], ["__init__.py", "shares.py"])

    def test_rows_and_signs(self):
        for path in sources():
            text = path.read_text(encoding="utf-8")
            self.assertIsNone(re.search(r"[^\n -~]", text), path)
            self.assertIsNone(re.search(WORDS, text, re.VERBOSE), path)
            rows = text.split("\n")
            self.assertLessEqual(len(rows), 400, path)
            self.assertLessEqual(max(len(row) for row in rows), 120, path)

    def test_statements_and_expressions(self):
        for path, node in self.nodes():
            where = (path.name, getattr(node, "lineno", 0))
            self.assertNotIsInstance(node, FORBIDDEN, where)
            if isinstance(node, ast.Constant):
                self.assertIsInstance(node.value, (int, str, bool, type(None)), where)
            if isinstance(node, ast.Assign):
                self.assertEqual(len(node.targets), 1, where)
                self.assertNotIsInstance(node.targets[0], (ast.Tuple, ast.List), where)
            if isinstance(node, (ast.For, ast.While)):
                self.assertEqual(node.orelse, [], where)
            if isinstance(node, ast.FunctionDef):
                self.check_function(node, where)

    def check_function(self, node, where):
        self.assertLessEqual(node.end_lineno - node.lineno + 1, 40, where)
        self.assertEqual(node.decorator_list, [], where)
        self.assertIsNone(node.returns, where)
        self.assertIsNone(node.args.vararg or node.args.kwarg, where)
        self.assertEqual(node.args.kwonlyargs + node.args.posonlyargs, [], where)

    def test_names(self):
        for path, node in self.nodes():
            where = (path.name, getattr(node, "lineno", 0))
            if isinstance(node, ast.Name):
                self.assertFalse(node.id.startswith("_"), where)
                if hasattr(builtins, node.id):
                    self.assertIn(node.id, OWN_NAMES, where)
                    self.assertIsInstance(node.ctx, ast.Load, where)
            if isinstance(node, ast.arg):
                self.assertFalse(node.arg.startswith("_") or hasattr(builtins, node.arg), where)
            if isinstance(node, (ast.FunctionDef, ast.ClassDef)) and node.name != "__init__":
                self.assertFalse(node.name.startswith("_") or hasattr(builtins, node.name), where)
            if isinstance(node, ast.Attribute):
                self.assertIn(node.attr, ATTRIBUTES, where)

    def test_each_name_of_the_top_once(self):
        for path in sources():
            names = []
            for node in ast.parse(path.read_text(encoding="utf-8")).body:
                if isinstance(node, ast.Assign):
                    names.append(node.targets[0].id)
                elif isinstance(node, (ast.FunctionDef, ast.ClassDef)):
                    names.append(node.name)
                else:
                    self.assertIsInstance(node, ast.Expr)
                    self.assertIsInstance(node.value, ast.Constant)
            self.assertEqual(len(names), len(set(names)), path)

    def nodes(self):
        for path in sources():
            for node in ast.walk(ast.parse(path.read_text(encoding="utf-8"))):
                yield path, node


if __name__ == "__main__":
    unittest.main()
