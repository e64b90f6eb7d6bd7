"""The package takes values and answers values, in small plain files."""

import ast
import contextlib
import io
import pathlib
import unittest

from tonetables.picture import answers

PACKAGE = pathlib.Path(__file__).resolve().parent.parent / "tonetables"
FILES = sorted(PACKAGE.rglob("*.py"))
OUTSIDE = {"print", "open", "input", "exec", "eval", "compile", "globals", "__import__", "breakpoint"}
WIDE = (ast.Import, ast.ImportFrom, ast.Global, ast.Nonlocal, ast.With, ast.GeneratorExp, ast.SetComp,
        ast.DictComp, ast.Div, ast.Starred, ast.NamedExpr, ast.Yield, ast.Assert, ast.Delete, ast.Match)


class FormOfThePackage(unittest.TestCase):
    def test_files(self):
        self.assertEqual([path.name for path in FILES], ["__init__.py", "picture.py"])

    def test_signs_and_sizes(self):
        for path in FILES:
            text = path.read_bytes()
            self.assertTrue(all(sign == 10 or 32 <= sign <= 126 for sign in text), path)
            rows = text.decode().split("\n")
            self.assertLessEqual(len(rows), 400)
            self.assertLessEqual(max(len(row) for row in rows), 120)

    def test_nothing_is_imported_printed_or_read(self):
        for path in FILES:
            for node in ast.walk(ast.parse(path.read_text())):
                self.assertNotIsInstance(node, WIDE, path)
                if isinstance(node, ast.Name):
                    self.assertNotIn(node.id, OUTSIDE)
                if isinstance(node, ast.Constant):
                    self.assertNotIsInstance(node.value, (float, bytes, complex))

    def test_small_functions(self):
        for path in FILES:
            for node in ast.walk(ast.parse(path.read_text())):
                if isinstance(node, ast.FunctionDef):
                    self.assertLessEqual(node.end_lineno - node.lineno + 1, 40, node.name)

    def test_prints_nothing(self):
        said = io.StringIO()
        with contextlib.redirect_stdout(said), contextlib.redirect_stderr(said):
            answers([0, 2, 1, 2, 6, 7, 3, 3, 5, 300, 8, 1, 9, 10, 11, 12, 13, 14, 9, 9, 9, 9, 9])
        self.assertEqual(said.getvalue(), "")
