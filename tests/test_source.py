"""Looks at the files of the package: sizes, signs and words that the program does without."""

import ast
from pathlib import Path
from unittest import TestCase

PACKAGE = Path(__file__).resolve().parent.parent / "everyface"
FILES = sorted(PACKAGE.rglob("*.py"))
LIBRARY = {"math": {"gcd", "lcm"}}
BARRED = (ast.Div, ast.AsyncFunctionDef, ast.AsyncFor, ast.AsyncWith, ast.Await)


class Source(TestCase):
    def test_the_package_holds_nothing_but_python_files(self):
        others = [path.name for path in PACKAGE.rglob("*")
                  if path.suffix != ".py" and "__pycache__" not in path.parts]
        self.assertEqual(others, [])
        self.assertIn(PACKAGE / "__init__.py", FILES)

    def test_sizes_and_signs(self):
        for path in FILES:
            text = path.read_bytes().decode("ascii")
            with self.subTest(path.name):
                self.assertLess(len(text.splitlines()), 400)
                self.assertLessEqual(max(map(len, text.splitlines())), 120)
                self.assertTrue(all([sign == "\n" or " " <= sign <= "~" for sign in text]))

    def test_functions_are_short(self):
        for path in FILES:
            for node in ast.walk(ast.parse(path.read_text())):
                if isinstance(node, ast.FunctionDef):
                    with self.subTest(file=path.name, function=node.name):
                        self.assertLessEqual(node.end_lineno - node.lineno + 1, 40)

    def test_imports(self):
        for path in FILES:
            for node in ast.walk(ast.parse(path.read_text())):
                self.assertNotIsInstance(node, ast.Import)
                if isinstance(node, ast.ImportFrom):
                    with self.subTest(file=path.name, module=node.module):
                        self.assertEqual(node.level, 0)
                        names = {each.name for each in node.names}
                        self.assertEqual([each.asname for each in node.names if each.asname], [])
                        if node.module in LIBRARY:
                            self.assertLessEqual(names, LIBRARY[node.module])
                        else:
                            self.assertTrue(node.module.startswith("everyface."))
                            self.assertNotIn("*", names)

    def test_no_floats_and_no_division_but_that_of_whole_numbers(self):
        for path in FILES:
            for node in ast.walk(ast.parse(path.read_text())):
                with self.subTest(file=path.name, line=getattr(node, "lineno", 0)):
                    self.assertNotIsInstance(node, BARRED)
                    if isinstance(node, ast.Constant):
                        self.assertNotIsInstance(node.value, (float, complex))
                    if isinstance(node, ast.Name):
                        self.assertNotIn(node.id, ("float", "eval", "exec", "open", "input", "print"))
