"""The package keeps to the part of Python that it's written in, as far as a short look can tell."""

import ast
import builtins
import re
import unittest
from pathlib import Path

PACKAGE = Path(__file__).resolve().parent.parent / "captiondesk"
NAMES = """len range enumerate zip min max sum abs sorted reversed int str bool list tuple dict set frozenset isinstance
    ord repr any all divmod ValueError KeyError IndexError LookupError NotImplementedError""".split()
METHODS = """append clear copy count endswith extend find get index insert isalnum isalpha isdigit islower isspace
    isupper items join keys ljust lower lstrip partition pop remove replace reverse rfind rjust rpartition rsplit
    rstrip setdefault split splitlines startswith strip update upper values zfill bit_length""".split()
NOT_USED = (ast.With, ast.Delete, ast.Global, ast.Nonlocal, ast.Assert, ast.Yield, ast.YieldFrom, ast.Await,
            ast.AsyncFunctionDef, ast.AsyncFor, ast.AsyncWith, ast.Match, ast.GeneratorExp, ast.SetComp, ast.DictComp,
            ast.NamedExpr, ast.Starred, ast.Div, ast.Import, ast.AnnAssign, ast.Set, ast.Is, ast.IsNot)
WORDS = r"\b(type|typing|enum|Enum|Flag|Generic|Protocol|ABC|namedtuple|NamedTuple|TypedDict)\b|dataclass|overload"


def sources():
    return {path: path.read_text(encoding="ascii") for path in sorted(PACKAGE.glob("*.py"))}


def beside_none(node):
    return all(isinstance(other, ast.Constant) and other.value is None for other in node.comparators)


class Language(unittest.TestCase):
    def test_nothing_else_lies_in_the_package(self):
        there = [path.name for path in PACKAGE.iterdir() if path.name != "__pycache__"]
        self.assertEqual([name for name in there if not re.fullmatch(r"[a-z_]+\.py", name)], [])
        self.assertIn("__init__.py", there)

    def test_size_and_signs(self):
        for path, source in sources().items():
            rows = source.split("\n")
            self.assertLessEqual(len(rows), 400, path)
            self.assertLessEqual(max(map(len, rows)), 120, path)
            self.assertEqual(re.findall(r"[^ -~\n]", source), [], path)
            self.assertEqual(re.findall(WORDS, source), [], path)

    def test_functions_are_short_and_plain(self):
        for path, source in sources().items():
            for node in ast.walk(ast.parse(source)):
                if isinstance(node, ast.FunctionDef):
                    self.assertLessEqual(node.end_lineno - node.lineno + 1, 40, (path, node.name))
                    self.assertEqual(node.decorator_list, [], (path, node.name))
                    plain = node.args
                    self.assertFalse(plain.vararg or plain.kwarg or plain.kwonlyargs or plain.posonlyargs, node.name)

    def test_statements_and_expressions(self):
        for path, source in sources().items():
            tree = ast.parse(source)
            within = [id(op) for node in ast.walk(tree) if isinstance(node, ast.Compare) and beside_none(node)
                      for op in node.ops]
            for node in ast.walk(tree):
                if id(node) in within:
                    continue
                self.assertNotIsInstance(node, NOT_USED, (path, getattr(node, "lineno", 0)))
                if isinstance(node, ast.Assign):
                    self.assertEqual(len(node.targets), 1, (path, node.lineno))
                    self.assertNotIsInstance(node.targets[0], ast.Tuple, (path, node.lineno))
                if isinstance(node, ast.Constant):
                    self.assertIn(type(node.value), (int, str, bool, type(None)), (path, node.lineno))

    def test_imports_are_the_package_s_own(self):
        for path, source in sources().items():
            for node in ast.walk(ast.parse(source)):
                if isinstance(node, ast.ImportFrom):
                    self.assertRegex(node.module, r"^captiondesk\.[a-z]+$", path)
                    self.assertEqual(node.level, 0, path)
                    for name in node.names:
                        self.assertIsNone(name.asname, path)

    def test_names(self):
        own_methods = {node.name for source in sources().values() for node in ast.walk(ast.parse(source))
                       if isinstance(node, ast.FunctionDef)}
        for path, source in sources().items():
            tree = ast.parse(source)
            bound = {node.id for node in ast.walk(tree) if isinstance(node, ast.Name) and isinstance(node.ctx, ast.Store)}
            bound |= {node.arg for node in ast.walk(tree) if isinstance(node, ast.arg)}
            bound |= {node.name for node in ast.walk(tree) if isinstance(node, (ast.FunctionDef, ast.ClassDef))}
            given = {name.name for node in ast.walk(tree) if isinstance(node, ast.ImportFrom) for name in node.names}
            self.assertEqual({name for name in bound if name in dir(builtins)}, set(), path)
            for node in ast.walk(tree):
                if isinstance(node, ast.Name) and isinstance(node.ctx, ast.Load):
                    self.assertIn(node.id, bound | given | set(NAMES), (path, node.lineno))
                if isinstance(node, ast.Call) and isinstance(node.func, ast.Attribute):
                    self.assertIn(node.func.attr, own_methods | set(METHODS), (path, node.lineno))
            self.assertEqual([name for name in bound if name.startswith("_") and name != "__init__"], [], path)


if __name__ == "__main__":
    unittest.main()
