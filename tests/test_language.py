"""../shared/LANGUAGE.md: the rules that can be counted, for each file of the package."""

import ast
import pathlib
import unittest

PACKAGE = pathlib.Path(__file__).resolve().parent.parent / "flatstrip"
TEXTS = {path: path.read_text(encoding="utf-8") for path in sorted(PACKAGE.rglob("*.py"))}
LIBRARY = ("__future__", "collections", "heapq", "itertools", "math")
STATEMENTS = (ast.ImportFrom, ast.FunctionDef, ast.ClassDef, ast.Assign)


class TheLanguage(unittest.TestCase):
    def test_only_files_of_python_in_the_package(self):
        found = [path for path in PACKAGE.rglob("*") if "__pycache__" not in path.parts]
        self.assertEqual(sorted(found), list(TEXTS))
        self.assertIn(PACKAGE / "__init__.py", TEXTS)

    def test_sizes_of_files_and_lines(self):
        for path, text in TEXTS.items():
            lines = text.split("\n")
            self.assertLessEqual(len(lines), 399, path)
            self.assertLessEqual(max(len(line) for line in lines), 120, path)

    def test_sizes_of_functions(self):
        for path, text in TEXTS.items():
            for node in ast.walk(ast.parse(text)):
                if isinstance(node, ast.FunctionDef):
                    self.assertLessEqual(node.end_lineno - node.lineno + 1, 40, (path, node.name))

    def test_characters(self):
        for path, text in TEXTS.items():
            self.assertEqual([sign for sign in text if not (" " <= sign <= "~" or sign == "\n")], [], path)

    def test_imports(self):
        for path, text in TEXTS.items():
            for node in ast.walk(ast.parse(text)):
                self.assertNotIsInstance(node, ast.Import, path)
                if isinstance(node, ast.ImportFrom):
                    own = node.level == 0 and node.module.startswith("flatstrip.")
                    self.assertTrue(own or node.module in LIBRARY, (path, node.module))

    def test_statements_at_module_level(self):
        for path, text in TEXTS.items():
            tree = ast.parse(text)
            rest = tree.body[1:] if ast.get_docstring(tree) else tree.body
            self.assertEqual([node for node in rest if not isinstance(node, STATEMENTS)], [], path)


if __name__ == "__main__":
    unittest.main()
