"""The rules of LANGUAGE.md that are plain to count: files, imports, characters and lengths."""

import ast
import pathlib
import re
import unittest

PACKAGE = pathlib.Path(__file__).resolve().parent.parent / "savedback"
FILES = sorted(path for path in PACKAGE.rglob("*") if "__pycache__" not in path.parts)
SOURCES = ("savedback", "heapq", "math", "itertools", "collections", "__future__")


class Rules(unittest.TestCase):
    def test_files_have_plain_names(self):
        self.assertIn(PACKAGE / "__init__.py", FILES)
        for path in FILES:
            with self.subTest(file=path.name):
                self.assertRegex(path.name, re.compile(r"\A[a-z0-9_]+\.py\Z"))

    def test_characters_are_printable_ascii_and_line_feeds(self):
        for path in FILES:
            with self.subTest(file=path.name):
                self.assertTrue(all(code == 10 or 32 <= code <= 126 for code in path.read_bytes()))

    def test_files_and_lines_are_short(self):
        for path in FILES:
            with self.subTest(file=path.name):
                lines = path.read_text(encoding="utf-8").splitlines()
                self.assertLessEqual(len(lines), 399)
                self.assertLessEqual(max(len(line) for line in lines), 120)

    def test_functions_are_short(self):
        for path in FILES:
            for node in ast.walk(ast.parse(path.read_text(encoding="utf-8"))):
                if isinstance(node, ast.FunctionDef):
                    with self.subTest(file=path.name, function=node.name):
                        self.assertLessEqual(node.end_lineno - node.lineno + 1, 40)

    def test_imports_are_by_full_names(self):
        for path in FILES:
            for node in ast.walk(ast.parse(path.read_text(encoding="utf-8"))):
                with self.subTest(file=path.name):
                    self.assertNotIsInstance(node, ast.Import)
                    if isinstance(node, ast.ImportFrom):
                        self.assertEqual(node.level, 0)
                        self.assertIn(node.module.split(".")[0], SOURCES)
                        self.assertNotIn("*", [alias.name for alias in node.names])


if __name__ == "__main__":
    unittest.main()
