"""The package's own files: they import only one another, and keep to the sizes and signs asked of them."""

import ast
import pathlib
import unittest

import darkkeys

FOLDER = pathlib.Path(darkkeys.__file__).parent
FILES = sorted(FOLDER.glob("*.py"))


class CodeForm(unittest.TestCase):
    def test_the_files_are_found(self):
        names = [path.name for path in FILES]
        self.assertIn("__init__.py", names)
        self.assertIn("rings.py", names)

    def test_only_its_own_modules_are_imported(self):
        for path in FILES:
            for node in ast.walk(ast.parse(path.read_text(encoding="ascii"))):
                self.assertNotIsInstance(node, ast.Import, path)
                if isinstance(node, ast.ImportFrom):
                    self.assertEqual(node.level, 0, path)
                    self.assertTrue(node.module.startswith("darkkeys."), path)

    def test_sizes(self):
        for path in FILES:
            text = path.read_text(encoding="ascii")
            lines = text.split("\n")
            self.assertLessEqual(len(lines), 400, path)
            self.assertLessEqual(max(len(line) for line in lines), 120, path)
            for node in ast.walk(ast.parse(text)):
                if isinstance(node, ast.FunctionDef):
                    self.assertLessEqual(node.end_lineno - node.lineno + 1, 40, (path, node.name))

    def test_signs(self):
        for path in FILES:
            for sign in path.read_bytes():
                self.assertTrue(sign == 10 or 32 <= sign <= 126, (path, sign))


if __name__ == "__main__":
    unittest.main()
