"""Those rules of LANGUAGE.md that can be seen in the syntax tree of a file."""

import ast
import builtins
import os
import re
import unittest

TOP = os.path.dirname(os.path.dirname(os.path.abspath(__file__)))
PACKAGE = os.path.join(TOP, "lanekeepers")
LIBRARY = {"heapq", "math", "itertools", "collections"}
ALLOWED_BUILTINS = """len range enumerate zip min max sum abs sorted reversed int str bool bytes list tuple dict set
frozenset isinstance ord repr any all divmod pow Exception ValueError TypeError KeyError IndexError LookupError
ZeroDivisionError ArithmeticError OverflowError RuntimeError NotImplementedError AttributeError NotImplemented
property classmethod staticmethod map super getattr hasattr""".split()
ALLOWED_METHODS = ["__init__", "__eq__", "__len__", "__getitem__", "__contains__", "__iter__", "__call__", "__enter__", "__exit__"]
BARRED_WORDS = ["type", "typing", "typing_extensions", "enum", "Enum", "namedtuple", "dataclass", "contextmanager"]
BARRED_NODES = (ast.GeneratorExp, ast.Global, ast.AsyncFunctionDef, ast.Div, ast.Await)


def package_files():
    return sorted(name for name in os.listdir(PACKAGE) if name != "__pycache__")


def text_of(name):
    with open(os.path.join(PACKAGE, name), encoding="ascii") as held:
        return held.read()


def defined_in(tree):
    return [node.name for node in tree.body if isinstance(node, (ast.FunctionDef, ast.ClassDef))] + [
        name.id for node in tree.body if isinstance(node, ast.Assign) for name in node.targets]


def imported_by(tree):
    return [(node.module, alias.name) for node in tree.body if isinstance(node, ast.ImportFrom) for alias in node.names]


def bound_in(function):
    """The parameters and local names of a function."""
    names = [argument.arg for argument in ast.walk(function.args) if isinstance(argument, ast.arg)]
    return names + [node.id for node in ast.walk(function)
                    if isinstance(node, ast.Name) and isinstance(node.ctx, ast.Store)]


def trees():
    return [(name, ast.parse(text_of(name))) for name in package_files()]


def is_builtin(word):
    # A shell or a doctest that ran before leaves "_" among the builtins.
    return word != "_" and hasattr(builtins, word)


class FormTest(unittest.TestCase):
    def test_files(self):
        for name in package_files():
            self.assertRegex(name, r"^[a-z_][a-z0-9_]*\.py$")
        self.assertIn("__init__.py", package_files())

    def test_sizes_and_characters(self):
        for name, tree in trees():
            text = text_of(name)
            self.assertLess(len(text.splitlines()), 400)
            self.assertLessEqual(max(len(line) for line in text.splitlines()), 120)
            self.assertEqual(re.findall(r"[^ -~\n]", text), [])
            for node in ast.walk(tree):
                if isinstance(node, ast.FunctionDef):
                    self.assertLessEqual(node.end_lineno - node.lineno + 1, 40, (name, node.name))

    def test_imports_name_the_file_that_defines(self):
        for name, tree in trees():
            imports = [node for node in ast.walk(tree) if isinstance(node, (ast.Import, ast.ImportFrom))]
            self.assertEqual([node for node in imports if node not in tree.body or isinstance(node, ast.Import)], [])
            for module, word in imported_by(tree):
                if module not in LIBRARY:
                    self.assertTrue(module.startswith("lanekeepers."), module)
                    home = ast.parse(text_of(module.split(".")[1] + ".py"))
                    self.assertIn(word, defined_in(home))

    def test_imports_are_used_and_names_bound_once(self):
        for name, tree in trees():
            names = [word for _, word in imported_by(tree)] + defined_in(tree)
            self.assertEqual(len(names), len(set(names)))
            used = {node.id for node in ast.walk(tree) if isinstance(node, ast.Name)}
            self.assertEqual([word for _, word in imported_by(tree) if word not in used], [], name)

    def test_no_circle_of_imports(self):
        leads = {name: {module.split(".")[1] + ".py" for module, _ in imported_by(tree) if module not in LIBRARY}
                 for name, tree in trees()}
        while leads:
            free = [name for name in leads if not leads[name] & set(leads)]
            self.assertTrue(free, leads)
            for name in free:
                del leads[name]

    def test_names_keep_their_meaning(self):
        for name, tree in trees():
            own = {word for _, word in imported_by(tree)}
            own |= {node.name for node in tree.body if isinstance(node, ast.ClassDef)}
            for node in ast.walk(tree):
                if isinstance(node, (ast.FunctionDef, ast.Lambda)):
                    for word in bound_in(node):
                        self.assertNotIn(word, own, name)
                        self.assertFalse(is_builtin(word), (name, word))
            self.assertEqual([word for word in defined_in(tree) if is_builtin(word)], [])

    def test_double_underscore_methods(self):
        for name, tree in trees():
            for kind in [node for node in tree.body if isinstance(node, ast.ClassDef)]:
                methods = {node.name: node for node in kind.body if isinstance(node, ast.FunctionDef)}
                for word in methods:
                    self.assertTrue(not word.startswith("__") or word in ALLOWED_METHODS, (name, word))
                if "__getitem__" in methods:
                    self.assertIsInstance(methods["__iter__"].body[-1], ast.Raise)
                if "__len__" in methods:
                    self.assertTrue(ast.unparse(methods["__len__"].body[-1]).startswith("return len("))

    def test_errors_that_are_caught_and_raised(self):
        own = defined_in(ast.parse(text_of("errors.py")))
        for name, tree in trees():
            for node in ast.walk(tree):
                if isinstance(node, ast.ExceptHandler):
                    kinds = node.type.elts if isinstance(node.type, ast.Tuple) else [node.type]
                    self.assertEqual([kind.id for kind in kinds if kind.id not in own], [], name)
                if isinstance(node, ast.Raise):
                    self.assertIn(node.exc.func.id, own + ["TypeError"])

    def test_tables_of_functions(self):
        # Functions in a table at module level are defined in the same file, above it.
        for name, tree in trees():
            above = []
            for node in tree.body:
                if isinstance(node, ast.Assign):
                    used = [part.id for part in ast.walk(node.value) if isinstance(part, ast.Name)]
                    self.assertEqual([word for word in used if word not in above], [], name)
                if isinstance(node, ast.FunctionDef):
                    above.append(node.name)

    def test_statements_and_expressions(self):
        for name, tree in trees():
            for node in ast.walk(tree):
                self.assertNotIsInstance(node, BARRED_NODES)
                if isinstance(node, ast.Constant):
                    self.assertNotIsInstance(node.value, float)
                    self.assertFalse(isinstance(node.value, str) and "%" in node.value)
                if isinstance(node, ast.Name) and isinstance(node.ctx, ast.Load) and is_builtin(node.id):
                    self.assertIn(node.id, ALLOWED_BUILTINS)
                if isinstance(node, ast.Attribute):
                    self.assertNotIn(node.attr, ["sort", "format", "mro", "args"])
                if isinstance(node, (ast.FunctionDef, ast.ClassDef)):
                    for sign in node.decorator_list:
                        self.assertIn(getattr(sign, "id", None), ["property", "classmethod", "staticmethod"])
                if isinstance(node, ast.Compare) and any(isinstance(sign, (ast.Is, ast.IsNot)) for sign in node.ops):
                    self.assertTrue(all(isinstance(part, ast.Constant) for part in node.comparators))
            for word in BARRED_WORDS:
                self.assertNotIn(word, [getattr(node, "id", getattr(node, "attr", None)) for node in ast.walk(tree)])


if __name__ == "__main__":
    unittest.main()
