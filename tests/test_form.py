"""The form of the package's own files."""

import ast
import pathlib
import re
import unittest

import whatstands

FOLDER = pathlib.Path(whatstands.__file__).parent
FILES = sorted(path for path in FOLDER.iterdir() if path.name != "__pycache__")
UNUSED = ("type", "typing", "enum", "print", "open", "input", "chr", "eval", "exec", "global", "nonlocal")


class FormTest(unittest.TestCase):
    def trees(self):
        read = [path.read_text(encoding="utf-8") for path in FILES]
        return [(words, ast.parse(words)) for words in read]

    def test_files(self):
        self.assertIn("moot.py", [path.name for path in FILES])
        for path in FILES:
            self.assertRegex(path.name, r"^[a-z_]+\.py$")

    def test_signs_and_sizes(self):
        for words, tree in self.trees():
            self.assertRegex(words, r"\A[ -~\n]*\Z")
            lines = words.split("\n")
            self.assertLessEqual(len(lines), 400)
            self.assertLessEqual(max(len(line) for line in lines), 120)
            for node in ast.walk(tree):
                if isinstance(node, ast.FunctionDef):
                    self.assertLessEqual(node.end_lineno - node.lineno + 1, 40)

    def test_imports_are_the_packages_own(self):
        for words, tree in self.trees():
            for node in ast.walk(tree):
                self.assertNotIsInstance(node, ast.Import)
                if isinstance(node, ast.ImportFrom):
                    self.assertTrue(node.module.startswith("whatstands."))
                    self.assertEqual(node.level, 0)

    def test_words_that_are_not_used(self):
        for words, tree in self.trees():
            for word in UNUSED:
                self.assertIsNone(re.search(rf"\b{word}\b", words), word)

    def test_top_of_a_file_keeps_nothing(self):
        allowed = (ast.Expr, ast.ImportFrom, ast.FunctionDef, ast.ClassDef, ast.Assign)
        for words, tree in self.trees():
            for node in tree.body:
                self.assertIsInstance(node, allowed)
                if isinstance(node, ast.Expr):
                    self.assertIsInstance(node.value, ast.Constant)
                if isinstance(node, ast.Assign):
                    self.assertIsInstance(ast.literal_eval(node.value), int)


if __name__ == "__main__":
    unittest.main()
