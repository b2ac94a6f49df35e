"""The package's files: what they draw from, how long they are, and that they do nothing but answer."""

import ast
import pathlib
import unittest

PACKAGE = pathlib.Path(__file__).resolve().parent.parent / "letteredsums"
NEVER_CALLED = {"print", "open", "input", "exec", "eval", "compile", "chr", "float", "globals", "getattr"}


class Form(unittest.TestCase):
    def setUp(self):
        self.texts = {path: path.read_bytes().decode("ascii") for path in sorted(PACKAGE.glob("*.py"))}

    def test_nothing_but_modules_lies_in_the_package(self):
        others = [path.name for path in PACKAGE.iterdir() if path not in self.texts and path.name != "__pycache__"]
        self.assertEqual(others, [])

    def test_it_draws_from_itself_alone(self):
        for path, text in self.texts.items():
            for node in ast.walk(ast.parse(text)):
                self.assertNotIsInstance(node, ast.Import, path)
                if isinstance(node, ast.ImportFrom):
                    self.assertEqual(node.level, 0, path)
                    self.assertTrue(node.module.startswith("letteredsums."), path)

    def test_it_prints_and_reads_nothing(self):
        for path, text in self.texts.items():
            names = {node.id for node in ast.walk(ast.parse(text)) if isinstance(node, ast.Name)}
            self.assertEqual(names & NEVER_CALLED, set(), path)

    def test_sizes(self):
        for path, text in self.texts.items():
            rows = text.split("\n")
            self.assertLessEqual(len(rows), 400, path)
            self.assertLessEqual(max(len(row) for row in rows), 120, path)
            self.assertNotIn("\t", text, path)
            for node in ast.walk(ast.parse(text)):
                if isinstance(node, ast.FunctionDef):
                    self.assertLessEqual(node.end_lineno - node.lineno + 1, 40, node.name)


if __name__ == "__main__":
    unittest.main()
