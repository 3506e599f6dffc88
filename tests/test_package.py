"""The shape of the package: what its files may hold, and how long they are."""

import ast
import pathlib
import unittest

ROOT = pathlib.Path(__file__).resolve().parent.parent
FILES = sorted((ROOT / "ringlog").rglob("*.py"))


class PackageTest(unittest.TestCase):

    def test_the_package_is_one_folder_of_plain_files(self):
        self.assertTrue((ROOT / "ringlog" / "__init__.py").is_file())
        for path in (ROOT / "ringlog").iterdir():
            if path.name != "__pycache__":
                self.assertEqual(path.suffix, ".py")
                self.assertEqual(path.name, path.name.lower())
                self.assertFalse(path.name.startswith("test"))

    def test_characters_and_sizes(self):
        for path in FILES:
            text = path.read_bytes().decode("ascii")
            self.assertTrue(all(mark == "\n" or " " <= mark <= "~" for mark in text), path)
            lines = text.split("\n")
            self.assertLess(len(lines), 400, path)
            self.assertLessEqual(max(len(line) for line in lines), 120, path)

    def test_functions_are_small(self):
        for path in FILES:
            for node in ast.walk(ast.parse(path.read_text())):
                if isinstance(node, ast.FunctionDef):
                    self.assertLessEqual(node.end_lineno - node.lineno + 1, 40, (path, node.name))

    def test_imports_are_of_the_package(self):
        for path in FILES:
            for node in ast.walk(ast.parse(path.read_text())):
                self.assertNotIsInstance(node, ast.Import, path)
                if isinstance(node, ast.ImportFrom):
                    self.assertEqual(node.level, 0, path)
                    self.assertTrue(node.module.startswith("ringlog."), path)

    def test_no_files_and_nothing_printed(self):
        barred = {"open", "input", "print", "exec", "eval", "compile", "globals", "hash", "id"}
        for path in FILES:
            for node in ast.walk(ast.parse(path.read_text())):
                if isinstance(node, ast.Name):
                    self.assertNotIn(node.id, barred, path)

    def test_the_files_of_the_interface_are_there(self):
        for name in ("errors", "disk", "blocks", "search", "standing", "log", "carrying", "notes", "shell"):
            self.assertIn(ROOT / "ringlog" / f"{name}.py", FILES)
