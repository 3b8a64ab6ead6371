"""What the package's files may hold: sizes, signs and imports (../shared/LANGUAGE.md L1, L2, L7, L10, L14)."""

import ast
import pathlib
import unittest

PACKAGE = pathlib.Path(__file__).resolve().parent.parent / "waypins"


def sources():
    return sorted(PACKAGE.rglob("*.py"))


class Files(unittest.TestCase):
    def test_nothing_but_python_files(self):
        names = {path.name for path in PACKAGE.iterdir()} - {"__pycache__"}
        self.assertEqual(names, {path.name for path in sources()})
        self.assertIn("__init__.py", names)

    def test_signs_and_sizes(self):
        for path in sources():
            text = path.read_bytes()
            self.assertTrue(all(sign == 10 or 32 <= sign <= 126 for sign in text), path.name)
            lines = text.decode().split("\n")
            self.assertLess(len(lines), 401, path.name)
            self.assertLess(max(len(line) for line in lines), 121, path.name)

    def test_functions_are_short(self):
        for path in sources():
            for node in ast.walk(ast.parse(path.read_text())):
                if isinstance(node, ast.FunctionDef):
                    self.assertLess(node.end_lineno - node.lineno, 40, (path.name, node.name))

    def test_imports_come_from_the_package(self):
        for path in sources():
            for node in ast.walk(ast.parse(path.read_text())):
                self.assertNotIsInstance(node, ast.Import, path.name)
                if isinstance(node, ast.ImportFrom):
                    self.assertTrue(node.level == 0 and node.module.startswith("waypins."), (path.name, node.module))

    def test_no_floats_and_no_percent_signs(self):
        for path in sources():
            for node in ast.walk(ast.parse(path.read_text())):
                self.assertNotIsInstance(node, ast.Div, path.name)
                if isinstance(node, ast.Constant):
                    self.assertNotIsInstance(node.value, float, path.name)
                    self.assertFalse(isinstance(node.value, str) and "%" in node.value, path.name)


if __name__ == "__main__":
    unittest.main()
