"""Rules of the Python subset that can be told from the files: sizes, characters, imports, and names."""

import ast
import builtins
import os
import unittest
import warnings

ROOT = os.path.dirname(os.path.dirname(os.path.abspath(__file__)))
FOLDER = os.path.join(ROOT, "syncedwords")

ALLOWED_BUILTINS = set(
    "len range enumerate zip min max sum abs sorted reversed int str bool bytes list tuple dict set frozenset "
    "isinstance ord repr any all divmod pow getattr hasattr setattr map iter next super property staticmethod "
    "classmethod object float Exception ValueError TypeError KeyError IndexError LookupError ZeroDivisionError "
    "ArithmeticError OverflowError RuntimeError NotImplementedError AttributeError StopIteration NotImplemented".split()
)
ALLOWED_METHODS = set(
    "append clear copy count endswith extend find get index insert isalnum isalpha isdigit islower isspace isupper "
    "items join keys ljust lower lstrip partition pop remove replace reverse rfind rjust rpartition rsplit rstrip "
    "setdefault split splitlines startswith strip update upper values zfill bit_length add discard sort title "
    "capitalize swapcase casefold center expandtabs removeprefix removesuffix rindex isascii isdecimal isnumeric "
    "istitle isidentifier isprintable translate maketrans format encode __init__".split()
)
# A run of examples adds the name _ to Python's own; in the package it is a name that is never read.
BUILTINS = set(dir(builtins)) - {"_"}
ITERATING = ("list", "tuple", "dict", "sorted", "sum", "any", "all", "enumerate", "zip", "reversed", "min", "max", "len")
LIBRARY = {"heapq", "math", "itertools", "collections", "__future__"}
BARRED = set(
    "register mro elements open input law version_info with_traceback add_note type typing enum Enum namedtuple "
    "dataclass overload contextmanager".split()
)

BARRED_ATTRIBUTES = set(
    "items keys values pop update append clear extend insert remove reverse setdefault sort args encode decode hex "
    "fromhex format".split()
)


def package_files():
    """The paths of all files of the package."""
    found = []
    for folder, folders, names in os.walk(FOLDER):
        folders[:] = sorted(name for name in folders if name != "__pycache__")
        found += [os.path.join(folder, name) for name in sorted(names)]
    return found


def text_of(path):
    with open(path, encoding="utf-8", newline="") as file:
        return file.read()


def tree_of(path):
    with warnings.catch_warnings():
        warnings.simplefilter("error")
        return ast.parse(text_of(path))


def nodes_of(kinds):
    """All parts of the package's files that are of the kinds, each with the place where it stands."""
    for path in package_files():
        for node in ast.walk(tree_of(path)):
            if isinstance(node, kinds):
                yield f"{os.path.relpath(path, ROOT)}, line {node.lineno}", node


def bound_names(tree):
    """The names that a file binds at module level, those of its imports left out."""
    names = set()
    for node in tree.body:
        if isinstance(node, (ast.FunctionDef, ast.ClassDef)):
            names.add(node.name)
        elif isinstance(node, ast.Assign):
            names.update(target.id for target in node.targets)
    return names


class Language(unittest.TestCase):
    def test_files(self):
        for path in package_files():
            self.assertRegex(os.path.basename(path), r"\A[a-z0-9_]+\.py\Z")
            self.assertTrue(os.path.isfile(os.path.join(os.path.dirname(path), "__init__.py")), path)

    def test_characters_and_sizes(self):
        for path in package_files():
            text = text_of(path)
            self.assertRegex(text, r"\A[ -~\n]*\Z", path)
            self.assertLessEqual(len(text.split("\n")) - 1, 399, path)
            for number, line in enumerate(text.split("\n"), start=1):
                self.assertLessEqual(len(line), 120, f"{path}, line {number}")

    def test_functions_are_short(self):
        for place, node in nodes_of(ast.FunctionDef):
            self.assertLessEqual(node.end_lineno - node.lineno + 1, 40, place)

    def test_module_level(self):
        allowed = (ast.Expr, ast.ImportFrom, ast.FunctionDef, ast.ClassDef, ast.Assign, ast.AnnAssign)
        for path in package_files():
            for node in tree_of(path).body:
                self.assertIsInstance(node, allowed, path)
                if isinstance(node, ast.Expr):
                    self.assertIsInstance(node.value, ast.Constant, path)

    def test_imports_name_the_file_that_defines(self):
        bound = {}
        for path in package_files():
            module = os.path.relpath(path, ROOT)[:-len(".py")].replace(os.sep, ".")
            bound[module] = bound_names(tree_of(path))
        for place, node in nodes_of((ast.Import, ast.ImportFrom)):
            self.assertIsInstance(node, ast.ImportFrom, place)
            self.assertEqual(node.level, 0, place)
            for alias in node.names:
                if node.module not in LIBRARY:
                    self.assertIn(alias.name, bound[node.module], place)

    def test_builtins(self):
        for place, node in nodes_of(ast.Name):
            if node.id in BUILTINS:
                self.assertIn(node.id, ALLOWED_BUILTINS, place)
                self.assertIsInstance(node.ctx, ast.Load, place)
        for place, node in nodes_of(ast.arg):
            self.assertNotIn(node.arg, BUILTINS, place)

    def test_methods(self):
        own = {node.name for _, node in nodes_of(ast.FunctionDef)}
        for place, node in nodes_of(ast.Call):
            if isinstance(node.func, ast.Attribute):
                self.assertIn(node.func.attr, ALLOWED_METHODS | own, place)

    def test_barred_names(self):
        for place, node in nodes_of((ast.Name, ast.arg, ast.Attribute, ast.FunctionDef, ast.ClassDef)):
            for part in ("id", "arg", "attr", "name"):
                self.assertNotIn(getattr(node, part, ""), BARRED, place)

    def test_names_of_imports_are_not_given_again(self):
        for path in package_files():
            tree = tree_of(path)
            taken = {alias.name for node in ast.walk(tree) if isinstance(node, ast.ImportFrom) for alias in node.names}
            taken.update(node.name for node in ast.walk(tree) if isinstance(node, ast.ClassDef))
            for node in ast.walk(tree):
                if isinstance(node, ast.Name) and isinstance(node.ctx, ast.Store):
                    self.assertNotIn(node.id, taken, f"{path}, line {node.lineno}")
                elif isinstance(node, ast.arg):
                    self.assertNotIn(node.arg, taken, f"{path}, line {node.lineno}")

    def test_ranges_and_the_like_are_iterated_at_once(self):
        for path in package_files():
            tree = tree_of(path)
            allowed = set()
            for node in ast.walk(tree):
                if isinstance(node, (ast.For, ast.comprehension)):
                    allowed.add(node.iter)
                elif isinstance(node, ast.Call) and getattr(node.func, "id", "") in ITERATING and node.args:
                    allowed.add(node.args[0])
            for node in ast.walk(tree):
                if isinstance(node, ast.Call):
                    name = getattr(node.func, "id", None) or getattr(node.func, "attr", None)
                    if name in ("range", "zip", "enumerate", "reversed", "items", "keys", "values"):
                        self.assertIn(node, allowed, f"{path}, line {node.lineno}")

    def test_attributes(self):
        """No attribute has the name of a method of its class, or one that Python's own values keep for themselves."""
        for place, node in nodes_of(ast.ClassDef):
            methods = {part.name for part in node.body if isinstance(part, ast.FunctionDef)}
            attributes = {
                part.attr for part in ast.walk(node) if isinstance(part, ast.Attribute) and isinstance(part.ctx, ast.Store)
            }
            self.assertFalse(attributes & (methods | BARRED_ATTRIBUTES), place)
            self.assertFalse(methods & {"items", "keys", "values"}, place)
            self.assertFalse(node.decorator_list, place)

    def test_no_two_files_import_from_each_other(self):
        imports = {}
        for path in package_files():
            module = os.path.relpath(path, ROOT)[:-len(".py")].replace(os.sep, ".")
            imports[module] = {node.module for node in ast.walk(tree_of(path)) if isinstance(node, ast.ImportFrom)}
        left = set(imports)
        while left:
            free = {module for module in left if not imports[module] & left}
            self.assertTrue(free, left)
            left -= free

    def test_no_float_and_no_percent_in_strings(self):
        for place, node in nodes_of(ast.Constant):
            self.assertNotIsInstance(node.value, (float, complex), place)
            self.assertNotIn("%", str(node.value), place)
        for place, node in nodes_of(ast.BinOp):
            self.assertNotIsInstance(node.op, ast.Div, place)


if __name__ == "__main__":
    unittest.main()
