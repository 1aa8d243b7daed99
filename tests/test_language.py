"""What can be seen at a glance of the rules that the package's files keep to."""

import ast
import re
import unittest
from pathlib import Path

PACKAGE = Path(__file__).resolve().parent.parent / "kindshares"
FILES = sorted(path for path in PACKAGE.rglob("*") if "__pycache__" not in path.parts)

STATEMENTS = (ast.Module, ast.Assign, ast.AugAssign, ast.If, ast.While, ast.For, ast.Return, ast.Break, ast.Continue,
              ast.Pass, ast.Expr, ast.FunctionDef, ast.ClassDef, ast.ImportFrom, ast.alias, ast.arguments, ast.arg)
EXPRESSIONS = (ast.Constant, ast.List, ast.Tuple, ast.Dict, ast.BinOp, ast.UnaryOp, ast.BoolOp, ast.Compare, ast.IfExp,
               ast.Call, ast.keyword, ast.Attribute, ast.Subscript, ast.Slice, ast.ListComp, ast.comprehension,
               ast.Name, ast.expr_context, ast.boolop, ast.unaryop, ast.cmpop, ast.operator)
PYTHONS_OWN = ("len", "range", "zip", "enumerate", "min", "max", "sum", "abs", "all", "any", "list", "tuple", "dict")
METHODS = ("append", "extend", "get", "copy", "index", "count")
WORDS = r"\b(type|typing|enum|Enum|Generic|Protocol|ABC|namedtuple)\b|dataclass|overload|contextmanager"


def nodes():
    for path in FILES:
        for node in ast.walk(ast.parse(path.read_text())):
            yield path.name, node


class Files(unittest.TestCase):
    def test_plain_files_alone(self):
        self.assertIn("__init__.py", [path.name for path in FILES])
        for path in FILES:
            self.assertTrue(re.fullmatch(r"(__init__|[a-z][a-z0-9_]*)\.py", path.name), path)

    def test_signs_words_and_size(self):
        for path in FILES:
            text = path.read_text()
            lines = text.split("\n")
            self.assertTrue(re.fullmatch(r"[ -~\n]*", text), path)
            self.assertIsNone(re.search(WORDS, text), path)
            self.assertLessEqual(len(lines), 400, path)
            self.assertLessEqual(max(len(line) for line in lines), 120, path)


class Code(unittest.TestCase):
    def test_nodes(self):
        for name, node in nodes():
            self.assertIsInstance(node, STATEMENTS + EXPRESSIONS, name)
            self.assertNotIsInstance(node, (ast.Div, ast.MatMult, ast.Is, ast.IsNot, ast.Pow), name)
            if isinstance(node, ast.Constant):
                self.assertIn(type(node.value), (int, str, bool, type(None)), name)
            if isinstance(node, ast.Assign):
                self.assertEqual(len(node.targets), 1, name)

    def test_imports(self):
        for name, node in nodes():
            if isinstance(node, ast.ImportFrom):
                self.assertEqual(node.level, 0, name)
                self.assertTrue(node.module.startswith("kindshares."), name)

    def test_functions_and_names(self):
        defined = {node.name for _, node in nodes() if isinstance(node, (ast.FunctionDef, ast.ClassDef))}
        for name, node in nodes():
            if isinstance(node, ast.FunctionDef):
                self.assertLessEqual(node.end_lineno - node.lineno + 1, 40, node.name)
                self.assertEqual(node.decorator_list, [], node.name)
                self.assertTrue(node.name == "__init__" or not node.name.startswith("_"), node.name)
            if isinstance(node, ast.Call) and isinstance(node.func, ast.Name):
                self.assertIn(node.func.id, defined.union(PYTHONS_OWN), name)
            if isinstance(node, ast.Call) and isinstance(node.func, ast.Attribute):
                self.assertIn(node.func.attr, METHODS, name)


if __name__ == "__main__":
    unittest.main()
