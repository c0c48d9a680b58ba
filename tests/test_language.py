"""The package's files keep to the rules of LANGUAGE.md that can be counted."""

import ast
import builtins
import os
import unittest

PACKAGE = os.path.join(os.path.dirname(os.path.dirname(os.path.abspath(__file__))), "heldbehind")
LIBRARY = {"math": {"gcd", "lcm", "isqrt", "comb", "perm", "factorial"}}
BUILTINS = set("""len range enumerate zip min max sum abs sorted reversed int str bool list tuple dict set isinstance
any all divmod ValueError super repr map ord property classmethod staticmethod""".split())
DECORATORS = {"property", "classmethod", "staticmethod"}
DOUBLE = {"__init__", "__call__", "__add__", "__mul__", "__eq__", "__len__", "__contains__"}
METHODS = set("""append clear copy count endswith extend find get index insert isalnum isalpha isdigit islower isspace
isupper items join keys ljust lower lstrip partition pop remove replace reverse rfind rjust rpartition rsplit rstrip
setdefault split splitlines startswith strip update upper values zfill bit_length add discard""".split())
UNUSED = (ast.AsyncFunctionDef, ast.Global, ast.GeneratorExp, ast.Div, ast.Import, ast.Await, ast.Pow)


def files():
    return sorted(name for name in os.listdir(PACKAGE) if name != "__pycache__")


def text_of(name):
    with open(os.path.join(PACKAGE, name), encoding="utf-8", newline="") as file:
        return file.read()


def nodes():
    return [(name, node) for name in files() for node in ast.walk(ast.parse(text_of(name)))]


class Language(unittest.TestCase):
    def test_files(self):
        self.assertIn("__init__.py", files())
        for name in files():
            self.assertRegex(name, r"^[a-z_]+\.py$")

    def test_lines(self):
        for name in files():
            text = text_of(name)
            self.assertTrue(all(sign == "\n" or " " <= sign <= "~" for sign in text), name)
            self.assertLessEqual(len(text.splitlines()), 399, name)
            self.assertLessEqual(max(len(line) for line in text.splitlines()), 120, name)

    def test_functions(self):
        for name, node in nodes():
            if isinstance(node, ast.FunctionDef):
                self.assertLessEqual(node.end_lineno - node.lineno + 1, 40, (name, node.name))

    def test_module_level(self):
        allowed = (ast.Expr, ast.ImportFrom, ast.FunctionDef, ast.ClassDef, ast.Assign)
        for name in files():
            for node in ast.parse(text_of(name)).body:
                self.assertIsInstance(node, allowed, name)

    def test_imports(self):
        modules = {"heldbehind." + name[:-3] for name in files()}
        for name, node in nodes():
            if isinstance(node, ast.ImportFrom) and node.module not in modules:
                self.assertIn(node.module, LIBRARY, name)
                self.assertLessEqual({alias.name for alias in node.names}, LIBRARY[node.module], name)

    def test_no_ring_of_imports(self):
        ahead = {name: {node.module for node in ast.walk(ast.parse(text_of(name))) if isinstance(node, ast.ImportFrom)}
                 for name in files()}
        left = set(files())
        while left:
            free = [name for name in left if not any("heldbehind." + other[:-3] in ahead[name] for other in left)]
            self.assertTrue(free, left)
            left -= set(free)

    def test_names_and_numbers(self):
        known = set(dir(builtins))
        for name, node in nodes():
            self.assertNotIsInstance(node, UNUSED, name)
            if isinstance(node, ast.Constant):
                self.assertNotIsInstance(node.value, (float, complex), name)
            if isinstance(node, ast.Name) and node.id in known:
                self.assertIn(node.id, BUILTINS, (name, node.lineno))
            if isinstance(node, ast.arg):
                self.assertNotIn(node.arg, known, (name, node.lineno))

    def test_methods(self):
        own = {node.name for _, node in nodes() if isinstance(node, ast.FunctionDef)}
        for name, node in nodes():
            if isinstance(node, ast.Call) and isinstance(node.func, ast.Attribute):
                self.assertIn(node.func.attr, METHODS | own, (name, node.lineno))

    def test_decorators_and_operators(self):
        for name, node in nodes():
            if isinstance(node, ast.FunctionDef):
                self.assertLessEqual({decorator.id for decorator in node.decorator_list}, DECORATORS, (name, node.name))
                if node.name.startswith("__"):
                    self.assertIn(node.name, DOUBLE, name)
            if isinstance(node, ast.ClassDef):
                self.assertEqual([node.decorator_list, node.keywords], [[], []])

    def test_methods_and_attributes(self):
        # A name is a method, a property, a class value or an attribute, and the same in all classes.
        methods = {inner.name for _, node in nodes() if isinstance(node, ast.ClassDef)
                   for inner in node.body if isinstance(inner, ast.FunctionDef)}
        stored = {node.attr for _, node in nodes() if isinstance(node, ast.Attribute)
                  and isinstance(node.ctx, ast.Store)}
        self.assertEqual(methods & stored, set())
        # The attribute of TooMany is one of those that may have the name of a method of Python's own.
        for known in (int, str, list, dict, tuple, set, bytes):
            self.assertEqual({name for name in methods | stored if hasattr(known, name)} - DOUBLE - {"count"}, set())

    def test_no_error_of_python_is_caught(self):
        for name, node in nodes():
            if isinstance(node, ast.Try):
                self.assertEqual([node.handlers, node.orelse], [[], []], (name, node.lineno))
                self.assertTrue(all(isinstance(one, ast.Assign) for one in node.finalbody))

    def test_errors_are_created_where_they_are_raised(self):
        for name, node in nodes():
            if isinstance(node, ast.Raise):
                self.assertIsInstance(node.exc, ast.Call, (name, node.lineno))
                self.assertIsNone(node.cause)

    def test_sets_are_not_kept(self):
        for name, node in nodes():
            if isinstance(node, (ast.Assign, ast.Return)):
                self.assertNotIsInstance(node.value, (ast.Set, ast.SetComp), (name, node.lineno))

    def test_comparisons_by_is(self):
        for name, node in nodes():
            if isinstance(node, ast.Compare) and isinstance(node.ops[0], (ast.Is, ast.IsNot)):
                self.assertIsInstance(node.comparators[0], ast.Constant, (name, node.lineno))
                self.assertIn(node.comparators[0].value, (None, True, False), (name, node.lineno))

    def test_one_meaning_for_each_name(self):
        for name in files():
            tree = ast.parse(text_of(name))
            bound = [alias.asname or alias.name for node in tree.body if isinstance(node, ast.ImportFrom)
                     for alias in node.names]
            bound += [node.name for node in tree.body if isinstance(node, (ast.FunctionDef, ast.ClassDef))]
            self.assertEqual(len(bound), len(set(bound)), name)
            for node in ast.walk(tree):
                if isinstance(node, ast.Name) and isinstance(node.ctx, ast.Store):
                    self.assertNotIn(node.id, bound, (name, node.lineno))
                if isinstance(node, ast.arg):
                    self.assertNotIn(node.arg, bound, (name, node.lineno))

    def test_generators(self):
        # They are for callers: no function of the package needs one of them.
        named = {node.name for _, node in nodes() if isinstance(node, ast.FunctionDef)
                 for inner in ast.walk(node) if isinstance(inner, (ast.Yield, ast.YieldFrom))}
        self.assertEqual(named, {"sequences"})
        for name, node in nodes():
            if isinstance(node, ast.Name):
                self.assertNotIn(node.id, named, (name, node.lineno))

    def test_strings(self):
        for name, node in nodes():
            if isinstance(node, ast.Constant) and isinstance(node.value, str):
                self.assertNotIn("%", node.value, (name, node.lineno))


if __name__ == "__main__":
    unittest.main()
