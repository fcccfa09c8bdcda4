"""The rules of the language that are easily broken by an edit: size, characters, strings."""

import ast
import builtins
import pathlib
import re
import unittest

PACKAGE = pathlib.Path(__file__).resolve().parent.parent / "packetpicture"


class Language(unittest.TestCase):
    def setUp(self):
        self.files = sorted(PACKAGE.glob("*.py"))

    def nodes(self, *kinds):
        """Return tuples (file, node) for the nodes of these kinds."""
        found = []
        for file in self.files:
            for node in ast.walk(ast.parse(file.read_text())):
                if isinstance(node, kinds):
                    found.append((f"{file.name}:{node.lineno}", node))
        return found

    def test_the_package_holds_only_python_files(self):
        others = [path.name for path in PACKAGE.iterdir() if path.suffix != ".py"]
        self.assertIn(others, ([], ["__pycache__"]))

    def test_files_and_lines(self):
        for file in self.files:
            lines = file.read_text().split("\n")
            self.assertLessEqual(len(lines), 399, file.name)
            for number, line in enumerate(lines, 1):
                self.assertLessEqual(len(line), 120, f"{file.name}:{number}")
                self.assertTrue(all(" " <= letter <= "~" for letter in line), f"{file.name}:{number}")

    def test_escapes(self):
        for file in self.files:
            for found in re.findall(r"\\.", file.read_text()):
                self.assertIn(found, (r"\n", r"\t", r"\\", r"\"", r"\'"), file.name)

    def test_names(self):
        for file in self.files:
            tree = ast.parse(file.read_text())
            imported = [alias.name for node in ast.walk(tree) if isinstance(node, ast.ImportFrom)
                        for alias in node.names]
            classes = [node.name for node in ast.walk(tree) if isinstance(node, ast.ClassDef)]
            for node in ast.walk(tree):
                if isinstance(node, ast.arg):
                    name = node.arg
                elif isinstance(node, ast.Name) and isinstance(node.ctx, ast.Store):
                    name = node.id
                else:
                    continue
                self.assertNotIn(name, imported + classes + dir(builtins), f"{file.name}:{node.lineno}")

    def test_functions(self):
        for place, node in self.nodes(ast.FunctionDef):
            self.assertLessEqual(node.end_lineno - node.lineno + 1, 40, place)

    def test_strings_have_no_percent_sign(self):
        for place, node in self.nodes(ast.Constant):
            if isinstance(node.value, str):
                self.assertNotIn(chr(37), node.value, place)

    def test_imports_are_from_the_package(self):
        for place, node in self.nodes(ast.Import, ast.ImportFrom):
            self.assertIsInstance(node, ast.ImportFrom, place)
            self.assertTrue(node.module.startswith("packetpicture."), place)

    def test_no_floats_and_no_division(self):
        for place, node in self.nodes(ast.Constant):
            self.assertNotIsInstance(node.value, (float, complex), place)
        for place, node in self.nodes(ast.BinOp, ast.AugAssign):
            self.assertNotIsInstance(node.op, ast.Div, place)


if __name__ == "__main__":
    unittest.main()
