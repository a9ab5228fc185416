"""What a script can see of the rules of LANGUAGE.md, for each file of the package."""

import ast
import builtins
import pathlib
import unittest

import soleheld

FOLDER = pathlib.Path(soleheld.__file__).parent
FILES = sorted(path for path in FOLDER.iterdir() if path.name != "__pycache__")
TREES = {path.name: ast.parse(path.read_text(encoding="utf-8")) for path in FILES}
LIBRARY = {"math": {"gcd", "lcm", "isqrt", "comb", "perm", "factorial"},
           "itertools": {"product", "combinations", "permutations"}}
BUILTINS = set("""len range enumerate zip min max sum abs sorted reversed int str bool bytes list tuple dict set frozenset
isinstance ord repr any all divmod pow Exception ValueError TypeError KeyError IndexError LookupError ZeroDivisionError
ArithmeticError OverflowError RuntimeError NotImplementedError NotImplemented StopIteration""".split())
METHODS = set("""__init__ __eq__ __repr__ __str__ __len__ __enter__ __exit__ __call__ __iter__ __contains__ __add__ __sub__
__mul__ __bool__ __lt__""".split())
BARRED = set("register mro elements open input law version_info with_traceback add_note".split())
BARRED_WORDS = ("dataclass", "overload", "contextmanager", "_wall", "_WallAttr")


def nodes(kind):
    """The nodes of a kind, with the name of their file."""
    return [(name, node) for name, tree in TREES.items() for node in ast.walk(tree) if isinstance(node, kind)]


class Files(unittest.TestCase):
    def test_the_folder_has_python_files_only(self):
        self.assertTrue(all(path.is_file() and path.suffix == ".py" for path in FILES))
        self.assertTrue((FOLDER / "__init__.py").is_file())
        self.assertEqual(list(FOLDER.rglob("test*")), [])

    def test_characters_and_sizes(self):
        for path in FILES:
            text = path.read_text(encoding="utf-8")
            self.assertTrue(all(" " <= sign <= "~" or sign == "\n" for sign in text), path.name)
            self.assertTrue(text.endswith("\n"))
            self.assertLessEqual(len(text.splitlines()), 399, path.name)
            self.assertLessEqual(max(len(line) for line in text.splitlines()), 120, path.name)
            self.assertFalse([word for word in BARRED_WORDS if word in text], path.name)

    def test_functions_are_small(self):
        for name, node in nodes(ast.FunctionDef):
            self.assertLessEqual(node.end_lineno - node.lineno + 1, 40, (name, node.name))


class Imports(unittest.TestCase):
    def test_forms(self):
        self.assertEqual(nodes(ast.Import), [])
        for name, node in nodes(ast.ImportFrom):
            self.assertEqual(node.level, 0)
            self.assertTrue(all(alias.asname is None and alias.name != "*" for alias in node.names))
            if node.module in LIBRARY:
                self.assertLessEqual({alias.name for alias in node.names}, LIBRARY[node.module])
            else:
                self.assertTrue(node.module.startswith("soleheld."), (name, node.module))

    def test_each_name_comes_from_the_file_that_defines_it(self):
        for name, node in nodes(ast.ImportFrom):
            if node.module not in LIBRARY:
                tree = TREES[node.module.partition(".")[2] + ".py"]
                defined = {item.name for item in tree.body if isinstance(item, (ast.FunctionDef, ast.ClassDef))}
                for item in tree.body:
                    if isinstance(item, ast.Assign):
                        defined.add(item.targets[0].id)
                self.assertLessEqual({alias.name for alias in node.names}, defined, (name, node.module))

    def test_every_import_is_used(self):
        for name, tree in TREES.items():
            used = {node.id for node in ast.walk(tree) if isinstance(node, ast.Name)}
            for node in tree.body:
                if isinstance(node, ast.ImportFrom):
                    self.assertLessEqual({alias.name for alias in node.names}, used, name)

    def test_there_is_no_circle(self):
        above = {name: set() for name in TREES}
        for name, node in nodes(ast.ImportFrom):
            if node.module not in LIBRARY:
                above[name].add(node.module.partition(".")[2] + ".py")
        while above:
            free = [name for name in above if not above[name]]
            self.assertTrue(free, above)
            above = {name: needed - set(free) for name, needed in above.items() if name not in free}


class Words(unittest.TestCase):
    def test_module_level(self):
        kinds = (ast.ImportFrom, ast.FunctionDef, ast.ClassDef, ast.Assign)
        for name, tree in TREES.items():
            self.assertIsNotNone(ast.get_docstring(tree), name)
            self.assertTrue(all(isinstance(node, kinds) for node in tree.body[1:]), name)

    def test_everything_has_its_docstring(self):
        for name, node in nodes((ast.FunctionDef, ast.ClassDef)):
            if not node.name.startswith("__"):
                self.assertIsNotNone(ast.get_docstring(node), (name, node.name))

    def test_numbers_and_strings(self):
        for name, node in nodes(ast.Constant):
            self.assertNotIsInstance(node.value, (float, complex), name)
            if isinstance(node.value, str):
                self.assertNotIn("%", node.value, name)
        for kind in (ast.Lambda, ast.Global, ast.AsyncFunctionDef, ast.Await, ast.Div, ast.Match, ast.Assert):
            self.assertEqual(nodes(kind), [])

    def test_no_builtin_but_those_allowed(self):
        for name, node in nodes(ast.Name):
            if hasattr(builtins, node.id) and node.id != "property":
                self.assertIn(node.id, BUILTINS, name)
                self.assertIsInstance(node.ctx, ast.Load, name)

    def test_decorators(self):
        for name, node in nodes((ast.FunctionDef, ast.ClassDef)):
            for decorator in node.decorator_list:
                self.assertIsInstance(node, ast.FunctionDef, name)
                self.assertEqual(ast.unparse(decorator), "property", name)

    def test_methods_properties_and_attributes_have_names_of_their_own(self):
        stored = {node.attr for _, node in nodes(ast.Attribute) if isinstance(node.ctx, ast.Store)}
        methods = [item for _, node in nodes(ast.ClassDef) for item in node.body if isinstance(item, ast.FunctionDef)]
        properties = {item.name for item in methods if item.decorator_list}
        plain = {item.name for item in methods if not item.decorator_list}
        self.assertEqual(stored & (properties | plain), set())
        self.assertEqual(properties & plain, set())

    def test_generators_have_names_of_their_own(self):
        functions = [node for _, node in nodes(ast.FunctionDef)]
        for function in functions:
            if any(isinstance(node, (ast.Yield, ast.YieldFrom)) for node in ast.walk(function)):
                self.assertEqual([node.name for node in functions].count(function.name), 1, function.name)

    def test_no_name_stands_for_a_class_or_an_import_too(self):
        for name, tree in TREES.items():
            above = {node.name for node in tree.body if isinstance(node, ast.ClassDef)}
            above |= {alias.name for node in tree.body if isinstance(node, ast.ImportFrom) for alias in node.names}
            below = {node.arg for node in ast.walk(tree) if isinstance(node, ast.arg)}
            below |= {node.id for node in ast.walk(tree) if isinstance(node, ast.Name) and isinstance(node.ctx, ast.Store)}
            self.assertEqual(above & below, set(), name)

    def test_names(self):
        for name, node in nodes((ast.FunctionDef, ast.ClassDef)):
            self.assertNotIn(node.name, BARRED)
            if node.name.startswith("__"):
                self.assertIn(node.name, METHODS)
            else:
                self.assertFalse(hasattr(builtins, node.name), (name, node.name))
        for name, node in nodes(ast.arg):
            self.assertFalse(hasattr(builtins, node.arg), (name, node.arg))
        for name, node in nodes(ast.Attribute):
            self.assertNotIn(node.attr, BARRED, name)

    def test_sums_and_the_like_take_lists(self):
        for name, node in nodes(ast.GeneratorExp):
            self.fail((name, node.lineno))

    def test_what_str_and_repr_return(self):
        for name, node in nodes(ast.FunctionDef):
            if node.name in ("__str__", "__repr__"):
                value = node.body[-1].value
                joined = isinstance(value, ast.Call) and ast.unparse(value.func).endswith((".join", "str", "repr"))
                self.assertTrue(joined or isinstance(value, (ast.JoinedStr, ast.Constant)), name)
