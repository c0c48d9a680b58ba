"""The package's files keep to the rules of LANGUAGE.md that can be counted."""

import ast
import builtins
import os
import unittest

PACKAGE = os.path.join(os.path.dirname(os.path.dirname(os.path.abspath(__file__))), "heldbehind")
LIBRARY = {"math": {"gcd", "lcm", "isqrt", "comb", "perm", "factorial"}}
BUILTINS = set("""len range enumerate zip min max sum abs sorted reversed int str bool list tuple dict set isinstance
any all divmod ValueError super repr map ord""".split())
UNUSED = (ast.AsyncFunctionDef, ast.Global, ast.GeneratorExp, ast.Div, ast.Import, ast.Await, ast.Pow)


def files():
    return sorted(name for name in os.listdir(PACKAGE) if name != "__pycache__")


def text_of(name):
    with open(os.path.join(PACKAGE, name), encoding="utf-8", newline="") as file:
        return file.read()


def nodes():
    return [(name, node) for name in files() for node in ast.walk(ast.parse(text_of(name)))]


class Language(unittest.TestCase):
    def test_files(self):
        self.assertIn("__init__.py", files())
        for name in files():
            self.assertRegex(name, r"^[a-z_]+\.py$")

    def test_lines(self):
        for name in files():
            text = text_of(name)
            self.assertTrue(all(sign == "\n" or " " <= sign <= "~" for sign in text), name)
            self.assertLessEqual(len(text.splitlines()), 399, name)
            self.assertLessEqual(max(len(line) for line in text.splitlines()), 120, name)

    def test_functions(self):
        for name, node in nodes():
            if isinstance(node, ast.FunctionDef):
                self.assertLessEqual(node.end_lineno - node.lineno + 1, 40, (name, node.name))

    def test_module_level(self):
        allowed = (ast.Expr, ast.ImportFrom, ast.FunctionDef, ast.ClassDef, ast.Assign)
        for name in files():
            for node in ast.parse(text_of(name)).body:
                self.assertIsInstance(node, allowed, name)

    def test_imports(self):
        modules = {"heldbehind." + name[:-3] for name in files()}
        for name, node in nodes():
            if isinstance(node, ast.ImportFrom) and node.module not in modules:
                self.assertIn(node.module, LIBRARY, name)
                self.assertLessEqual({alias.name for alias in node.names}, LIBRARY[node.module], name)

    def test_no_ring_of_imports(self):
        ahead = {name: {node.module for node in ast.walk(ast.parse(text_of(name))) if isinstance(node, ast.ImportFrom)}
                 for name in files()}
        left = set(files())
        while left:
            free = [name for name in left if not any("heldbehind." + other[:-3] in ahead[name] for other in left)]
            self.assertTrue(free, left)
            left -= set(free)

    def test_names_and_numbers(self):
        known = set(dir(builtins))
        for name, node in nodes():
            self.assertNotIsInstance(node, UNUSED, name)
            if isinstance(node, ast.Constant):
                self.assertNotIsInstance(node.value, (float, complex), name)
            if isinstance(node, ast.Name) and node.id in known:
                self.assertIn(node.id, BUILTINS, (name, node.lineno))
            if isinstance(node, ast.arg):
                self.assertNotIn(node.arg, known, (name, node.lineno))


if __name__ == "__main__":
    unittest.main()
