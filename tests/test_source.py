"""The package's files keep to those rules of the language document that are plain to see: L1, L2, L10, L14, L16."""

import ast
import os
import unittest

ROOT = os.path.join(os.path.dirname(os.path.abspath(__file__)), "..", "callersrights")


def sources():
    """The names and texts of the package's files."""
    found = []
    for name in sorted(os.listdir(ROOT)):
        if name != "__pycache__":
            with open(os.path.join(ROOT, name), encoding="utf-8") as file:
                found.append((name, file.read()))
    return found


def imported(text):
    """The modules that a file imports from, and None for an import of another form."""
    found = []
    for node in ast.walk(ast.parse(text)):
        if isinstance(node, ast.Import):
            found.append(None)
        if isinstance(node, ast.ImportFrom):
            found.append(node.module if node.level == 0 else None)
    return found


class TestSource(unittest.TestCase):
    def test_files(self):
        names = [name for name, _ in sources()]
        self.assertIn("__init__.py", names)
        for name in names:
            self.assertRegex(name, r"^[a-z_]+\.py$")

    def test_sizes_and_characters(self):
        for name, text in sources():
            lines = text.split("\n")
            self.assertLess(len(lines), 400, name)
            for line in lines:
                self.assertLessEqual(len(line), 120, (name, line))
                self.assertTrue(all(" " <= sign <= "~" for sign in line), (name, line))
            for node in ast.walk(ast.parse(text)):
                if isinstance(node, ast.FunctionDef):
                    self.assertLessEqual(node.end_lineno - node.lineno + 1, 40, (name, node.name))

    def test_imports(self):
        allowed = ["callersrights." + name[:-3] for name, _ in sources()] + ["heapq", "math", "itertools", "collections"]
        for name, text in sources():
            for module in imported(text):
                self.assertIn(module, allowed, name)

    def test_no_circle_of_imports(self):
        ahead = {"callersrights." + name[:-3]: imported(text) for name, text in sources()}
        while ahead:
            free = [name for name in ahead if not any(module in ahead for module in ahead[name])]
            self.assertTrue(free, sorted(ahead))
            for name in free:
                del ahead[name]


if __name__ == "__main__":
    unittest.main()
