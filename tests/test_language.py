"""Some rules of the language of the package that a program can check: files, imports, names and sizes."""

import ast
import builtins
import pathlib
import unittest

PACKAGE = pathlib.Path(__file__).resolve().parent.parent / "watchfloor"
ALLOWED_BUILTINS = """
    len range enumerate zip min max sum abs sorted reversed int str bool bytes list tuple dict set frozenset isinstance
    ord repr any all divmod pow Exception ValueError TypeError KeyError IndexError LookupError ZeroDivisionError
    ArithmeticError OverflowError RuntimeError NotImplementedError AttributeError StopIteration NotImplemented
""".split()
BARRED_NODES = (
    ast.Global, ast.AsyncFunctionDef, ast.Await, ast.Yield, ast.YieldFrom, ast.Import, ast.Div, ast.Starred,
    ast.AnnAssign, ast.NamedExpr, ast.Match, ast.With, ast.TryStar,
)
LIBRARY = {"math": ["gcd", "lcm", "isqrt", "comb", "perm", "factorial"]}
BARRED_NAMES = "register mro elements open input law version_info with_traceback add_note id dir help exit os sys".split()


def sources():
    """Return the package's files as pairs of a path and its text."""
    return [(path, path.read_text(encoding="utf-8")) for path in sorted(PACKAGE.rglob("*.py"))]


def trees():
    return [(path, ast.parse(text)) for path, text in sources()]


class FilesTest(unittest.TestCase):

    def test_folder_holds_plain_files_alone(self):
        for path in PACKAGE.rglob("*"):
            if "__pycache__" not in path.parts:
                self.assertEqual(path.suffix, ".py", path)
                self.assertRegex(path.stem, r"\A[a-z0-9_]+\Z")

    def test_characters_and_sizes(self):
        for path, text in sources():
            lines = text.split("\n")
            self.assertLessEqual(len(lines), 399, path)
            for line in lines:
                self.assertLessEqual(len(line), 120, path)
                self.assertTrue(all(" " <= character <= "~" for character in line), path)

    def test_sizes_of_functions(self):
        for path, tree in trees():
            for node in ast.walk(tree):
                if isinstance(node, ast.FunctionDef):
                    self.assertLessEqual(node.end_lineno - node.lineno + 1, 40, (path, node.name))
                    self.assertIsNotNone(ast.get_docstring(node) or node.name == "__init__" or None, (path, node.name))


class ImportsTest(unittest.TestCase):

    def imports(self):
        """Return a dict of each module of the package, with the dict of the names that it imports."""
        found = {}
        for path, tree in trees():
            module = "watchfloor." + path.stem
            found[module] = {}
            for node in ast.walk(tree):
                if isinstance(node, ast.ImportFrom):
                    self.assertEqual(node.level, 0, path)
                    for alias in node.names:
                        self.assertIsNone(alias.asname, path)
                        found[module][alias.name] = node.module
        return found

    def test_each_name_comes_from_the_file_that_defines_it(self):
        defined = {}
        for path, tree in trees():
            names = [node.name for node in tree.body if isinstance(node, (ast.FunctionDef, ast.ClassDef))]
            names += [node.targets[0].id for node in tree.body if isinstance(node, ast.Assign)]
            self.assertEqual(len(names), len(set(names)), path)
            defined["watchfloor." + path.stem] = names
        defined.update(LIBRARY)
        for module, names in self.imports().items():
            for name in names:
                self.assertIn(name, defined[names[name]], module)
                self.assertNotIn(name, defined[module], module)

    def test_names_of_the_library_are_called_on_the_spot(self):
        for path, tree in trees():
            names = [name for name, module in self.imports()["watchfloor." + path.stem].items() if module in LIBRARY]
            calls = [node for node in ast.walk(tree) if isinstance(node, ast.Call)]
            called = [node.func for node in calls if not node.keywords]
            for node in ast.walk(tree):
                if isinstance(node, ast.Name) and node.id in names:
                    self.assertIn(node, called, path)

    def test_no_circles(self):
        imports = {module: set(names.values()) for module, names in self.imports().items()}
        while imports:
            free = [module for module in imports if not imports[module] & set(imports)]
            self.assertTrue(free, imports)
            for module in free:
                del imports[module]

    def test_every_import_is_used(self):
        imports = self.imports()
        for path, tree in trees():
            used = {node.id for node in ast.walk(tree) if isinstance(node, ast.Name)}
            for name in imports["watchfloor." + path.stem]:
                self.assertIn(name, used, path)


class NamesTest(unittest.TestCase):

    def test_statements_and_constants(self):
        for path, tree in trees():
            for node in ast.walk(tree):
                self.assertNotIsInstance(node, BARRED_NODES, (path, getattr(node, "lineno", None)))
                if isinstance(node, ast.Constant):
                    self.assertNotIsInstance(node.value, (float, complex), path)
                    if isinstance(node.value, str):
                        self.assertNotIn("%", node.value, path)
                if isinstance(node, (ast.FunctionDef, ast.ClassDef)):
                    self.assertIn([ast.unparse(one) for one in node.decorator_list], ([], ["property"]), path)

    def test_properties(self):
        """Those of classes alone; they call nothing but builtins, and no method or attribute has their name."""
        methods, properties, attributes = [], [], []
        for path, tree in trees():
            found = [one for node in tree.body if isinstance(node, ast.ClassDef) for one in node.body
                     if isinstance(one, ast.FunctionDef)]
            mine = [one for one in found if one.decorator_list]
            decorated = [node for node in ast.walk(tree) if isinstance(node, ast.FunctionDef) and node.decorator_list]
            self.assertEqual(len(mine), len(decorated), path)
            for one in mine:
                calls = [node.func for node in ast.walk(one) if isinstance(node, ast.Call)]
                self.assertTrue(all(isinstance(call, ast.Name) and call.id in ALLOWED_BUILTINS for call in calls), one.name)
                places = [node for node in ast.walk(one) if isinstance(node, (ast.Attribute, ast.Subscript))]
                self.assertTrue(all(isinstance(place.ctx, ast.Load) for place in places), one.name)
            properties += [one.name for one in mine]
            methods += [one.name for one in found if not one.decorator_list]
            attributes += [node.attr for node in ast.walk(tree)
                           if isinstance(node, ast.Attribute) and isinstance(node.ctx, ast.Store)]
        self.assertEqual(len(properties), len(set(properties)))
        self.assertFalse(set(properties) & set(methods + attributes))

    def test_builtins(self):
        """Only those that are allowed are used, and no name of the package's own hides one."""
        for path, tree in trees():
            for node in ast.walk(tree):
                if isinstance(node, ast.Name) and node.id in vars(builtins):
                    self.assertIn(node.id, ALLOWED_BUILTINS + ["property"], path)
                    self.assertIsInstance(node.ctx, ast.Load, path)
                if isinstance(node, (ast.FunctionDef, ast.ClassDef)):
                    self.assertNotIn(node.name, vars(builtins), (path, node.name))
                if isinstance(node, ast.arg):
                    self.assertNotIn(node.arg, vars(builtins), (path, node.arg))

    def test_names(self):
        for path, tree in trees():
            top = [node for node in tree.body if isinstance(node, (ast.ImportFrom, ast.ClassDef))]
            taken = {alias.name for node in top if isinstance(node, ast.ImportFrom) for alias in node.names}
            taken |= {node.name for node in top if isinstance(node, ast.ClassDef)}
            for node in ast.walk(tree):
                if isinstance(node, ast.Name) and not isinstance(node.ctx, ast.Load):
                    self.assertNotIn(node.id, taken, path)
                if isinstance(node, ast.Name) and node.id == "_":
                    self.assertIsInstance(node.ctx, ast.Store, path)
                name = getattr(node, "id", getattr(node, "attr", getattr(node, "arg", getattr(node, "name", ""))))
                if isinstance(name, str):
                    self.assertNotIn(name, BARRED_NAMES, path)
                if isinstance(node, ast.arg):
                    self.assertNotIn(node.arg, taken, path)


if __name__ == "__main__":
    unittest.main()
