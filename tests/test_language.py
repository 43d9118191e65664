"""Those rules of the package's subset of Python that a reader would easily overlook."""

import ast
import builtins
import pathlib
import unittest

FOLDER = pathlib.Path(__file__).resolve().parent.parent / "everyfont"
FILES = sorted(FOLDER.glob("*.py"))

# L2, L8: what may be imported from outside, which builtins may be named.
LIBRARY = {
    "heapq": {"heappush", "heappop", "heapify", "heapreplace", "heappushpop"},
    "math": {"gcd", "lcm", "isqrt", "comb", "perm", "factorial"},
    "itertools": {
        "product", "combinations", "permutations", "chain", "accumulate", "pairwise", "islice", "zip_longest"},
    "collections": {"defaultdict", "deque"},
    "__future__": {"annotations"},
}
BUILTINS = set("""
    len range enumerate zip min max sum abs sorted reversed int str bool bytes list tuple dict set frozenset isinstance
    ord repr any all divmod pow getattr hasattr setattr iter next map type super property staticmethod classmethod
    Exception ValueError TypeError KeyError IndexError LookupError ZeroDivisionError ArithmeticError OverflowError
    RuntimeError NotImplementedError AttributeError StopIteration NotImplemented object
""".split())

# L25, L26: which methods of builtin values may be called, and what no attribute may be called.
METHODS = set("""
    append clear copy count endswith extend find get index insert isalnum isalpha isdigit islower isspace isupper items
    join keys ljust lower lstrip partition pop remove replace reverse rfind rjust rpartition rsplit rstrip setdefault split
    splitlines startswith strip update upper values zfill bit_length title capitalize swapcase casefold center expandtabs
    removeprefix removesuffix rindex isascii isdecimal isnumeric istitle isidentifier isprintable
""".split())
NO_ATTRIBUTES = set("""
    items keys values pop update append clear extend insert remove reverse setdefault sort args encode decode hex fromhex
    format format_map mro as_integer_ratio bit_count conjugate from_bytes is_integer to_bytes real imag numerator denominator
""".split())
# L17: names that nothing may have.
NO_NAMES = set("""
    register mro elements open input law version_info with_traceback add_note attrgetter breakpoint builtins compile copyright
    credits delattr dir eval exec exit gc globals help id importlib license locals methodcaller os quit setattr type vars sys
    typing enum dataclass overload contextmanager abstractmethod
""".split())


def bound_names(tree):
    """Return all names that a file binds in any way, with the nodes that bind them."""
    for node in ast.walk(tree):
        if isinstance(node, (ast.FunctionDef, ast.ClassDef)):
            yield node.name, node
        elif isinstance(node, ast.arg):
            yield node.arg, node
        elif isinstance(node, ast.Name) and isinstance(node.ctx, ast.Store):
            yield node.id, node


class Language(unittest.TestCase):
    def each(self, kind):
        """Return (file's name, node) for all nodes of a kind in the package."""
        for file in FILES:
            for node in ast.walk(ast.parse(file.read_text())):
                if isinstance(node, kind):
                    yield file.name, node

    def test_the_folder_contains_sources_alone(self):
        others = [path.name for path in FOLDER.iterdir() if path not in FILES and path.name != "__pycache__"]
        self.assertEqual(others, [])
        self.assertIn(FOLDER / "__init__.py", FILES)

    def test_sizes_and_characters(self):
        for file in FILES:
            text = file.read_bytes().decode("ascii")
            lines = text.split("\n")
            with self.subTest(file.name):
                self.assertLessEqual(len(lines), 399)
                self.assertLessEqual(max(len(line) for line in lines), 120)
                self.assertTrue(all(sign == "\n" or " " <= sign <= "~" for sign in text))
                self.assertTrue(text.endswith("\n"))

    def test_functions_are_small(self):
        for file, node in self.each(ast.FunctionDef):
            with self.subTest(file=file, function=node.name):
                self.assertLessEqual(node.end_lineno - node.lineno + 1, 40)

    def test_imports(self):
        for file, node in self.each((ast.Import, ast.ImportFrom)):
            with self.subTest(file=file, line=node.lineno):
                self.assertIsInstance(node, ast.ImportFrom)
                self.assertEqual(node.level, 0)
                names = {alias.name for alias in node.names}
                if not node.module.startswith("everyfont."):
                    self.assertLessEqual(names, LIBRARY[node.module])

    def test_imports_lead_to_definitions(self):
        for file, node in self.each(ast.ImportFrom):
            if node.module.startswith("everyfont."):
                tree = ast.parse((FOLDER / (node.module.split(".")[1] + ".py")).read_text())
                defined = {name for name, own in bound_names(tree) if own in tree.body}
                defined |= {own.targets[0].id for own in tree.body if isinstance(own, ast.Assign)}
                with self.subTest(file=file, line=node.lineno):
                    self.assertLessEqual({alias.name for alias in node.names}, defined)

    def test_every_import_is_used(self):
        for file in FILES:
            tree = ast.parse(file.read_text())
            used = {node.id for node in ast.walk(tree) if isinstance(node, ast.Name)}
            for node in tree.body:
                if isinstance(node, ast.ImportFrom):
                    with self.subTest(file.name, line=node.lineno):
                        self.assertLessEqual({alias.name for alias in node.names}, used)

    def test_builtins(self):
        for file, node in self.each(ast.Name):
            if node.id in vars(builtins):
                with self.subTest(file=file, line=node.lineno):
                    self.assertIn(node.id, BUILTINS)

    def test_no_name_is_that_of_a_builtin_or_an_import(self):
        for file in FILES:
            tree = ast.parse(file.read_text())
            imported = {alias.name for node in tree.body if isinstance(node, ast.ImportFrom) for alias in node.names}
            for name, node in bound_names(tree):
                with self.subTest(file.name, name=name, line=node.lineno):
                    self.assertNotIn(name, imported)
                    self.assertNotIn(name, vars(builtins))

    def test_no_floats(self):
        self.assertEqual(list(self.each(ast.Div)), [])
        for file, node in self.each(ast.Constant):
            with self.subTest(file=file, line=node.lineno):
                self.assertNotIsInstance(node.value, (float, complex))

    def test_lists_are_iterated_where_a_class_may_have_its_own_truth(self):
        for file, node in self.each(ast.Call):
            if isinstance(node.func, ast.Name) and node.func.id in ("any", "all", "min", "max", "sum", "sorted"):
                with self.subTest(file=file, line=node.lineno):
                    self.assertFalse(any(isinstance(value, ast.GeneratorExp) for value in node.args))

    def test_methods_are_known(self):
        own = {node.name for _, node in self.each(ast.FunctionDef)}
        for file, node in self.each(ast.Call):
            if isinstance(node.func, ast.Attribute):
                with self.subTest(file=file, line=node.lineno):
                    self.assertIn(node.func.attr, METHODS | own)

    def test_attributes_have_names_of_their_own(self):
        methods = {node.name for _, node in self.each(ast.FunctionDef)}
        for file, node in self.each(ast.Attribute):
            if isinstance(node.ctx, ast.Store):
                with self.subTest(file=file, line=node.lineno):
                    self.assertFalse(node.attr in NO_ATTRIBUTES | methods, node.attr)
        for file, node in self.each(ast.ClassDef):
            for method in node.body:
                # The interface wants Desk.copy.
                if isinstance(method, ast.FunctionDef) and not method.name.startswith("__") and method.name != "copy":
                    with self.subTest(file=file, line=method.lineno):
                        for builtin in (str, int, list, dict, set, tuple, bytes):
                            self.assertFalse(hasattr(builtin, method.name))

    def test_no_barred_names(self):
        for file in FILES:
            for name, node in bound_names(ast.parse(file.read_text())):
                with self.subTest(file.name, line=node.lineno):
                    self.assertNotIn(name, NO_NAMES)
                    self.assertFalse(name.startswith("__") and name not in ("__init__", "__eq__", "__len__"))

    def test_module_level_names_have_plain_values(self):
        plain = (ast.Constant, ast.Tuple, ast.List, ast.Dict, ast.Name, ast.Load, ast.UnaryOp, ast.USub, ast.BinOp, ast.Add)
        for file in FILES:
            for node in ast.parse(file.read_text()).body:
                allowed = (ast.ImportFrom, ast.FunctionDef, ast.ClassDef, ast.Assign)
                docstring = isinstance(node, ast.Expr) and isinstance(node.value, ast.Constant)
                with self.subTest(file.name, line=node.lineno):
                    self.assertTrue(docstring or isinstance(node, allowed))
                    if isinstance(node, ast.Assign):
                        self.assertTrue(all(isinstance(part, plain) for part in ast.walk(node.value)))

    def test_only_own_errors_and_errors_of_keys_are_caught(self):
        own = {node.name for file, node in self.each(ast.ClassDef) if file == "errors.py"}
        for file, node in self.each(ast.ExceptHandler):
            with self.subTest(file=file, line=node.lineno):
                self.assertIn(node.type.id, own | {"KeyError", "ZeroDivisionError"})

    def test_errors_are_created_where_they_are_raised(self):
        for file, node in self.each(ast.Raise):
            with self.subTest(file=file, line=node.lineno):
                self.assertIsInstance(node.exc, ast.Call)
                self.assertIsInstance(node.exc.func, ast.Name)

    def test_no_docstring_is_missing(self):
        for file, node in self.each((ast.FunctionDef, ast.ClassDef)):
            if node.name != "__init__":
                with self.subTest(file=file, line=node.lineno):
                    self.assertTrue(ast.get_docstring(node))

    def test_statements(self):
        barred = (ast.Global, ast.AsyncFunctionDef, ast.Await, ast.AsyncFor, ast.AsyncWith)
        self.assertEqual(list(self.each(barred)), [])

    def test_is_stands_beside_none_true_and_false(self):
        for file, node in self.each(ast.Compare):
            if any(isinstance(sign, (ast.Is, ast.IsNot)) for sign in node.ops):
                with self.subTest(file=file, line=node.lineno):
                    self.assertIsInstance(node.comparators[-1], ast.Constant)


if __name__ == "__main__":
    unittest.main()
