"""The form of the package: those rules of the subset that can be seen file by file."""

import ast
import builtins
import os
import unittest

ROOT = os.path.dirname(os.path.dirname(os.path.abspath(__file__)))
PACKAGE = "keptcoin"
BUILTINS = """len range enumerate zip min max sum abs sorted reversed int str bool bytes list tuple dict set frozenset
    isinstance ord repr any all divmod pow iter next getattr hasattr setattr super property staticmethod classmethod
    Exception ValueError TypeError KeyError IndexError LookupError ZeroDivisionError ArithmeticError OverflowError
    RuntimeError NotImplementedError AttributeError StopIteration NotImplemented map""".split()
METHODS = """append clear copy count endswith extend find get index insert isalnum isalpha isdigit islower isspace
    isupper items join keys ljust lower lstrip partition pop remove replace reverse rfind rjust rpartition rsplit rstrip
    setdefault split splitlines startswith strip update upper values zfill bit_length title capitalize swapcase casefold
    center expandtabs removeprefix removesuffix rindex isascii isdecimal isnumeric istitle isidentifier isprintable sort
    add discard format""".split()
SPECIAL = """__init__ __eq__ __repr__ __str__ __len__ __enter__ __exit__ __call__ __iter__ __lt__ __le__ __gt__ __ge__
    __ne__ __add__ __sub__ __mul__ __floordiv__ __mod__ __pow__ __and__ __or__ __xor__ __neg__ __pos__ __invert__
    __abs__ __bool__ __contains__ __getitem__ __setitem__""".split()
BARRED = """register mro elements open input law version_info with_traceback add_note attrgetter breakpoint builtins
    compile copyright credits delattr dir eval exec exit gc globals help id importlib license locals methodcaller os
    quit type vars sys""".split()
STATEMENTS = (ast.Assign, ast.AugAssign, ast.If, ast.While, ast.For, ast.Return, ast.Break, ast.Continue, ast.Pass,
              ast.Raise, ast.Assert, ast.Delete, ast.Nonlocal, ast.Match, ast.With, ast.Expr, ast.Try, ast.FunctionDef)
PLAIN = (ast.Constant, ast.Tuple, ast.List, ast.Dict, ast.BinOp, ast.UnaryOp, ast.Name, ast.operator, ast.unaryop,
         ast.expr_context)


def sources():
    """The pairs of a path within the package and the text of the file."""
    found = []
    for folder, _, names in sorted(os.walk(os.path.join(ROOT, PACKAGE))):
        if os.path.basename(folder) == "__pycache__":
            continue
        for name in sorted(names):
            path = os.path.join(folder, name)
            with open(path, encoding="utf-8") as file:
                found.append((os.path.relpath(path, ROOT), file.read()))
    return found


def names_bound(tree):
    """The names that functions, parameters, assignments, loops and handlers bind, methods left out."""
    for node in ast.walk(tree):
        if isinstance(node, ast.arg):
            yield node.arg
        elif isinstance(node, ast.Name) and isinstance(node.ctx, ast.Store):
            yield node.id
        elif isinstance(node, ast.ExceptHandler) and node.name:
            yield node.name
        elif isinstance(node, ast.Module):
            for child in node.body:
                if isinstance(child, (ast.FunctionDef, ast.ClassDef)):
                    yield child.name


def imported(tree):
    return [(node.module, alias.name) for node in tree.body if isinstance(node, ast.ImportFrom) for alias in node.names]


def defined(tree):
    """The names that a file itself defines at module level."""
    names = []
    for node in tree.body:
        if isinstance(node, (ast.FunctionDef, ast.ClassDef)):
            names.append(node.name)
        if isinstance(node, ast.Assign):
            names.extend([target.id for target in node.targets])
    return names


class FormTest(unittest.TestCase):
    def setUp(self):
        self.files = sources()
        self.trees = [(path, ast.parse(text)) for path, text in self.files]
        self.own = {node.name for _, tree in self.trees for node in ast.walk(tree)
                    if isinstance(node, (ast.FunctionDef, ast.ClassDef))}

    def test_files(self):
        self.assertLessEqual(len(self.files), 100)
        folders = {os.path.dirname(path) for path, _ in self.files}
        paths = {path for path, _ in self.files}
        for path, _ in self.files:
            name = os.path.basename(path)
            self.assertTrue(name.endswith(".py") and name == name.lower(), path)
            self.assertNotIn(path[:-3], folders)
        for folder in folders:
            self.assertIn(os.path.join(folder, "__init__.py"), paths)

    def test_sizes(self):
        for path, text in self.files:
            lines = text.splitlines()
            self.assertLessEqual(len(lines), 399, path)
            self.assertLessEqual(max([len(line) for line in lines], default=0), 120, path)
        for path, tree in self.trees:
            for node in ast.walk(tree):
                if isinstance(node, ast.FunctionDef):
                    self.assertLessEqual(node.end_lineno - node.lineno + 1, 40, (path, node.name))

    def test_characters(self):
        for path, text in self.files:
            self.assertEqual([c for c in text if not (" " <= c <= "~" or c == "\n")], [], path)
        for path, tree in self.trees:
            for node in ast.walk(tree):
                if isinstance(node, ast.Constant) and isinstance(node.value, (str, bytes)):
                    self.assertNotIn("%", str(node.value), path)
                self.assertFalse(isinstance(node, ast.Constant) and isinstance(node.value, (float, complex)), path)

    def test_imports(self):
        modules = {path[:-3].replace(os.sep, "."): tree for path, tree in self.trees}
        for path, tree in self.trees:
            for node in ast.walk(tree):
                self.assertNotIsInstance(node, ast.Import, path)
            rows = imported(tree)
            self.assertEqual(len(rows), len(set(rows)), path)
            for module, name in rows:
                self.assertIn(name, defined(modules[module]), (path, module, name))
            taken = [name for _, name in rows]
            classes = [node.name for node in tree.body if isinstance(node, ast.ClassDef)]
            bound = [name for name in names_bound(tree) if name not in classes]
            self.assertEqual([name for name in bound if name in taken or name in classes], [], path)

    def test_no_circles_of_imports(self):
        rows = {path[:-3].replace(os.sep, "."): [module for module, _ in imported(tree)] for path, tree in self.trees}
        while rows:
            free = [name for name in rows if not [other for other in rows[name] if other in rows]]
            self.assertNotEqual(free, [], sorted(rows))
            rows = {name: rows[name] for name in rows if name not in free}

    def test_module_level(self):
        for path, tree in self.trees:
            names = defined(tree) + [name for _, name in imported(tree)]
            self.assertEqual(len(names), len(set(names)), path)
            for node in tree.body:
                if isinstance(node, ast.Assign):
                    self.assertEqual(len(node.targets), 1, path)
                    for inner in ast.walk(node.value):
                        self.assertIsInstance(inner, PLAIN, (path, node.lineno))
                elif isinstance(node, ast.Expr):
                    self.assertIsInstance(node.value, ast.Constant, path)
                else:
                    self.assertIsInstance(node, (ast.ImportFrom, ast.FunctionDef, ast.ClassDef), path)

    def test_names(self):
        for path, tree in self.trees:
            for name in names_bound(tree):
                self.assertFalse(hasattr(builtins, name), (path, name))
                self.assertNotIn(name, BARRED, path)
                self.assertFalse(name.startswith("__"), (path, name))
            for node in ast.walk(tree):
                if isinstance(node, ast.Name) and isinstance(node.ctx, ast.Load) and hasattr(builtins, node.id):
                    self.assertIn(node.id, BUILTINS, path)

    def test_statements(self):
        for path, tree in self.trees:
            for function in ast.walk(tree):
                if not isinstance(function, ast.FunctionDef):
                    continue
                for node in ast.walk(function):
                    if isinstance(node, ast.stmt):
                        self.assertIsInstance(node, STATEMENTS, (path, node.lineno))
                    # Generator expressions are bound to so many rules that lists are used throughout.
                    self.assertNotIsInstance(node, (ast.GeneratorExp, ast.Lambda, ast.NamedExpr), path)

    def test_methods(self):
        for path, tree in self.trees:
            for node in ast.walk(tree):
                if isinstance(node, ast.Call) and isinstance(node.func, ast.Attribute):
                    self.assertIn(node.func.attr, [*METHODS, *self.own], (path, node.lineno))

    def test_classes(self):
        for path, tree in self.trees:
            for node in ast.walk(tree):
                if isinstance(node, ast.ClassDef):
                    self.check_class(path, node)

    def check_class(self, path, node):
        self.assertEqual(node.decorator_list, [])
        for child in node.body:
            self.assertIsInstance(child, (ast.Expr, ast.FunctionDef), (path, child.lineno))
            if isinstance(child, ast.FunctionDef) and child.name.startswith("__"):
                self.assertIn(child.name, SPECIAL, path)

    def test_attributes(self):
        assigned, properties, methods = set(), set(), set()
        for _, tree in self.trees:
            for node in ast.walk(tree):
                if isinstance(node, ast.Attribute) and isinstance(node.ctx, ast.Store):
                    assigned.add(node.attr)
                if isinstance(node, ast.ClassDef):
                    for child in node.body:
                        if isinstance(child, ast.FunctionDef):
                            words = [one.id for one in child.decorator_list if isinstance(one, ast.Name)]
                            (properties if "property" in words else methods).add(child.name)
        self.assertEqual(assigned & (properties | methods), set())
        self.assertEqual(properties & methods, set())
        for path, tree in self.trees:
            for node in ast.walk(tree):
                if isinstance(node, ast.Attribute) and node.attr not in METHODS:
                    self.assertIn(node.attr, assigned | properties | methods, (path, node.lineno))


if __name__ == "__main__":
    unittest.main()
