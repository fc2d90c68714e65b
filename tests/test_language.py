"""The files of the package, by the rules of LANGUAGE.md."""

import ast
import pathlib
import sys
import unittest

from tests.language import complaints

FOLDER = pathlib.Path(__file__).resolve().parent.parent / "needonce"

# Pieces of code that break a rule, each with the number of the rule.
WRONG = (
    ("L2", "from os import path\n"), ("L2", "from needonce.tokens import tokens as t\n"), ("L2", "from . import a\n"),
    ("L16", "import heapq\n"), ("L3", "a = 1\na += 1\n"), ("L3", "print(1)\n"), ("L3", "A, B = 1, 2\n"),
    ("L3", "A = len([])\n"), ("L3", "A = 1\nB = (A,)\n"), ("L4", "def f(x=[]):\n    return x\n"), ("L5", "class A:\n    x = []\n"),
    ("L4", "class A:\n    @property\n    def f(self):\n        return g(self)\n"),
    ("L4", "class A:\n    @other\n    def f(self):\n        return self.x\n"),
    ("L6", "def f():\n    global x\n"), ("L7", "def f():\n    return 1.5\n"), ("L7", "def f(x):\n    return x / 2\n"),
    ("L8", "def f():\n    return hash(1)\n"), ("L8", "def f():\n    print(1)\n"),
    ("L10", "def f():\n" + "    pass\n" * 40), ("L10", "A = 1\n" * 400), ("L10", f"A = '{'a' * 120}'\n"),
    ("L12", "def f():\n    for _ in []:\n        return _\n"), ("L12", "def __f():\n    pass\n"),
    ("L14", "A = '\u00e9'\n"), ("L15", "def f(id):\n    pass\n"), ("L15", "A = 1\nA = 2\n"), ("L15", "A = ([],)\n"),
    ("L15", "from needonce.a import b\ndef f(b):\n    pass\n"), ("L17", "def f(type):\n    pass\n"),
    ("L17", "def f(x):\n    return x.open\n"), ("L17", "A = 'an enum'\n"), ("L19", "def f(x):\n    raise x\n"),
    ("L20", "def f(x, y):\n    return x is y\n"), ("L22", "def f(x):\n    return sorted(x, foo=1)\n"),
    ("L22", "def f(x):\n    return f(len)\n"), ("L23", "def f(x):\n    y = zip(x, x)\n    return y\n"),
    ("L23", "def f(x):\n    for y in x:\n        x.append(y)\n"), ("L24", "def f(x):\n    return {x}\n"),
    ("L25", "def f(x):\n    return x.sort()\n"), ("L25", "def f(x):\n    return x.foo()\n"), ("L27", "A = '50%'\n"),
    ("L27", "A = '\\x41'\n"), ("L18", "class A:\n    def f(self):\n        self.f = 1\n"),
)


def package_files():
    return sorted(FOLDER.glob("*.py"))


def own_methods():
    found = set()
    for path in package_files():
        for node in ast.walk(ast.parse(path.read_text())):
            if isinstance(node, ast.ClassDef):
                found |= {part.name for part in node.body if isinstance(part, ast.FunctionDef)}
    return found


def package_imports():
    """For each file of the package, the names that it imports from each other one."""
    found = {}
    for path in package_files():
        found[path.stem] = {node.module.partition(".")[2]: [alias.name for alias in node.names]
                            for node in ast.parse(path.read_text()).body
                            if isinstance(node, ast.ImportFrom) and node.module.startswith("needonce.")}
    return found


class LanguageTest(unittest.TestCase):
    def test_each_file(self):
        methods = own_methods()
        for path in package_files():
            with self.subTest(path.name):
                self.assertEqual(complaints(path.read_text(encoding="utf-8"), methods), [])

    def test_the_looking_over_finds_what_is_wrong(self):
        for rule, text in WRONG:
            with self.subTest(text[:60]):
                self.assertIn(rule, " ".join(told for _, told in complaints(text)))

    def test_the_folder(self):
        names = [path.name for path in FOLDER.iterdir() if path.name != "__pycache__"]
        self.assertIn("__init__.py", names)
        self.assertLessEqual(len(names), 100)
        for name in names:
            self.assertRegex(name, r"^[a-z0-9_]+\.py$")

    def test_the_package_has_no_name_of_the_library(self):
        self.assertNotIn("needonce", sys.stdlib_module_names)

    def test_no_name_is_a_method_and_an_attribute(self):
        stored = set()
        for path in package_files():
            stored |= {node.attr for node in ast.walk(ast.parse(path.read_text()))
                       if isinstance(node, ast.Attribute) and isinstance(node.ctx, ast.Store)}
        self.assertEqual(stored & own_methods(), set())

    def test_imports_name_the_file_that_defines(self):
        defined = {}
        for path in package_files():
            body = ast.parse(path.read_text()).body
            defined[path.stem] = {node.name for node in body if isinstance(node, (ast.FunctionDef, ast.ClassDef))}
            defined[path.stem] |= {node.targets[0].id for node in body if isinstance(node, ast.Assign)}
        for name, imported in package_imports().items():
            for other, names in imported.items():
                self.assertLessEqual(set(names), defined[other], name)

    def test_imports_are_used(self):
        for path in package_files():
            tree = ast.parse(path.read_text())
            used = {node.id for node in ast.walk(tree) if isinstance(node, ast.Name)}
            for node in tree.body:
                if isinstance(node, ast.ImportFrom):
                    self.assertLessEqual({alias.name for alias in node.names}, used, path.name)

    def test_no_circles_of_imports(self):
        imported = package_imports()
        done = []
        while len(done) < len(imported):
            ready = [name for name in imported if name not in done and set(imported[name]) <= set(done)]
            self.assertNotEqual(ready, [], "a circle among the files that are left")
            done.extend(ready)


if __name__ == "__main__":
    unittest.main()
