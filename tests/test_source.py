"""The package's files keep to those rules of the language document that are plain to see."""

import ast
import builtins
import os
import unittest

ROOT = os.path.join(os.path.dirname(os.path.abspath(__file__)), "..", "callersrights")

# L8, L22 and L25, without what this package has no need of.
BUILTINS = [
    "len", "range", "enumerate", "zip", "min", "max", "sum", "abs", "sorted", "reversed", "int", "str", "bool", "list",
    "tuple", "dict", "set", "isinstance", "iter", "repr", "any", "all", "ValueError",
]
METHODS = [
    "append", "clear", "copy", "count", "endswith", "extend", "find", "get", "index", "insert", "items", "join", "keys",
    "pop", "remove", "replace", "reverse", "setdefault", "split", "startswith", "strip", "update", "values",
]
DOUBLE = ["__init__", "__eq__", "__len__", "__iter__", "__contains__"]
STATEMENTS = (
    ast.Global, ast.With, ast.AsyncFunctionDef, ast.Delete, ast.GeneratorExp, ast.Yield, ast.YieldFrom,
    ast.AnnAssign, ast.Set, ast.JoinedStr, ast.Starred, ast.NamedExpr, ast.Div, ast.Mod, ast.Pow, ast.Match,
)


def sources():
    """The names and texts of the package's files."""
    found = []
    for name in sorted(os.listdir(ROOT)):
        if name != "__pycache__":
            with open(os.path.join(ROOT, name), encoding="utf-8") as file:
                found.append((name, file.read()))
    return found


def imported(text):
    """The modules that a file imports from, and None for an import of another form."""
    found = []
    for node in ast.walk(ast.parse(text)):
        if isinstance(node, ast.Import):
            found.append(None)
        if isinstance(node, ast.ImportFrom):
            found.append(node.module if node.level == 0 else None)
    return found


class TestSource(unittest.TestCase):
    def test_files(self):
        names = [name for name, _ in sources()]
        self.assertIn("__init__.py", names)
        for name in names:
            self.assertRegex(name, r"^[a-z_]+\.py$")

    def test_sizes_and_characters(self):
        for name, text in sources():
            lines = text.split("\n")
            self.assertLess(len(lines), 400, name)
            for line in lines:
                self.assertLessEqual(len(line), 120, (name, line))
                self.assertTrue(all(" " <= sign <= "~" for sign in line), (name, line))
            for node in ast.walk(ast.parse(text)):
                if isinstance(node, ast.FunctionDef):
                    self.assertLessEqual(node.end_lineno - node.lineno + 1, 40, (name, node.name))

    def test_imports(self):
        allowed = ["callersrights." + name[:-3] for name, _ in sources()] + ["heapq", "math", "itertools", "collections"]
        for name, text in sources():
            for module in imported(text):
                self.assertIn(module, allowed, name)

    def test_builtins_and_names(self):
        for name, text in sources():
            nodes = list(ast.walk(ast.parse(text)))
            made = [node.id for node in nodes if isinstance(node, ast.Name) and not isinstance(node.ctx, ast.Load)]
            made += [node.arg for node in nodes if isinstance(node, ast.arg)]
            made += [node.name for node in nodes if isinstance(node, (ast.FunctionDef, ast.ClassDef))]
            for word in made:
                self.assertTrue(word in DOUBLE or not word.startswith("__"), (name, word))
                self.assertTrue(word in DOUBLE or not hasattr(builtins, word), (name, word))
            for node in nodes:
                if isinstance(node, ast.Name) and isinstance(node.ctx, ast.Load) and hasattr(builtins, node.id):
                    self.assertIn(node.id, BUILTINS, name)

    def test_methods_and_attributes(self):
        trees = [ast.parse(text) for _, text in sources()]
        nodes = [node for tree in trees for node in ast.walk(tree)]
        own = {part.name for node in nodes if isinstance(node, ast.ClassDef) for part in node.body
               if isinstance(part, ast.FunctionDef)}
        stored = {node.attr for node in nodes if isinstance(node, ast.Attribute) and isinstance(node.ctx, ast.Store)}
        called = {node.func.attr for node in nodes if isinstance(node, ast.Call)
                  and isinstance(node.func, ast.Attribute)}
        self.assertEqual(called - own - set(METHODS), set())
        self.assertEqual(own & stored, set())
        self.assertEqual(stored & set(METHODS), set())

    def test_statements(self):
        for name, text in sources():
            for node in ast.walk(ast.parse(text)):
                self.assertNotIsInstance(node, STATEMENTS, name)
                if isinstance(node, (ast.FunctionDef, ast.ClassDef)):
                    self.assertEqual(node.decorator_list, [], name)

    def test_handlers(self):
        own = {node.name for name, text in sources() if name == "errors.py" for node in ast.walk(ast.parse(text))
               if isinstance(node, ast.ClassDef)}
        for name, text in sources():
            for node in ast.walk(ast.parse(text)):
                if isinstance(node, ast.Try):
                    self.assertEqual((node.finalbody, node.orelse), ([], []), name)
                    caught = [part.id for handler in node.handlers for part in ast.walk(handler.type)
                              if isinstance(part, ast.Name)]
                    self.assertTrue(caught and set(caught) <= own, (name, caught))

    def test_methods_of_classes_that_are_iterated_over(self):
        bodies = {"__iter__": "return iter(self._names)", "__len__": "return len(self._names)"}
        for name, text in sources():
            for node in ast.walk(ast.parse(text)):
                if isinstance(node, ast.FunctionDef) and node.name in bodies:
                    self.assertEqual([ast.unparse(part) for part in node.body], [bodies[node.name]], name)

    def test_imports_are_not_renamed(self):
        for name, text in sources():
            for node in ast.walk(ast.parse(text)):
                if isinstance(node, ast.alias):
                    self.assertIsNone(node.asname, name)
                    self.assertNotEqual(node.name, "*", name)

    def test_no_circle_of_imports(self):
        ahead = {"callersrights." + name[:-3]: imported(text) for name, text in sources()}
        while ahead:
            free = [name for name in ahead if not any(module in ahead for module in ahead[name])]
            self.assertTrue(free, sorted(ahead))
            for name in free:
                del ahead[name]


if __name__ == "__main__":
    unittest.main()
