"""The rules of LANGUAGE.md that can be seen rule by rule in the package's files."""

import ast
import builtins
import pathlib
import re
import unittest

PACKAGE = pathlib.Path(__file__).resolve().parent.parent / "hunch"

BUILTINS = set("""
    len range enumerate zip min max sum abs sorted reversed int str bool bytes list tuple dict set
    frozenset isinstance ord repr any all divmod Exception ValueError TypeError KeyError IndexError
    LookupError ZeroDivisionError ArithmeticError OverflowError RuntimeError NotImplementedError
    AttributeError StopIteration NotImplemented super property staticmethod classmethod
    """.split())
METHODS = set("""
    append clear copy count endswith extend find get index insert isalnum isalpha isdigit islower
    isspace isupper items join keys ljust lower lstrip partition pop remove replace reverse rfind
    rjust rpartition rsplit rstrip setdefault split splitlines startswith strip update upper values
    zfill bit_length add discard sort title capitalize swapcase casefold center expandtabs
    removeprefix removesuffix rindex isascii isdecimal isnumeric istitle isidentifier isprintable
    """.split())
BARRED_WORDS = set("""
    type typing typing_extensions enum Enum IntEnum StrEnum Flag IntFlag Generic Protocol ABC
    ABCMeta namedtuple NamedTuple TypedDict TYPE_CHECKING abstractmethod
    """.split())
BARRED_NAMES = set("""
    register mro elements open input version_info with_traceback add_note attrgetter breakpoint
    builtins compile copyright credits delattr dir eval exec exit gc getattr globals hasattr help id
    importlib license locals methodcaller os quit setattr super type vars sys
    """.split())
BARRED_ATTRIBUTES = set("""
    items keys values pop update append clear extend insert remove reverse setdefault sort args
    encode decode hex fromhex format format_map mro
    """.split())
BARRED_PARTS = ("dataclass", "overload", "contextmanager")
BARRED_NODES = (
    ast.Global, ast.AsyncFunctionDef, ast.AsyncFor, ast.AsyncWith, ast.Await, ast.Import, ast.Div)


def package_files():
    return sorted(path for path in PACKAGE.rglob("*") if path.name.endswith(".py"))


def parsed(path):
    return ast.parse(path.read_text(encoding="utf-8"))


def walked_files():
    """Every node of every file, with a name to tell it by."""
    for path in package_files():
        for node in ast.walk(parsed(path)):
            yield f"{path.name}:{getattr(node, 'lineno', 0)}", node


def bound_names(tree):
    """Every name that a file gives a meaning, with its line."""
    for node in ast.walk(tree):
        if isinstance(node, ast.Name) and isinstance(node.ctx, ast.Store):
            yield node.id, node.lineno
        elif isinstance(node, (ast.FunctionDef, ast.ClassDef)):
            yield node.name, node.lineno
        elif isinstance(node, ast.arg):
            yield node.arg, node.lineno
        elif isinstance(node, ast.alias):
            yield node.asname or node.name, node.lineno


def methods_of(tree):
    """The functions that stand in the body of a class."""
    return [part for node in ast.walk(tree) if isinstance(node, ast.ClassDef)
            for part in node.body if isinstance(part, ast.FunctionDef)]


def attributes_assigned(tree):
    """The names of attributes that a file assigns."""
    return {node.attr for node in ast.walk(tree)
            if isinstance(node, ast.Attribute) and isinstance(node.ctx, ast.Store)}


def imported_files(path):
    """The names of the package's files that one of them imports from."""
    return {node.module.partition(".")[2] for node in ast.walk(parsed(path))
            if isinstance(node, ast.ImportFrom) and node.module != "__future__"}


class Rules(unittest.TestCase):
    def test_the_folder_holds_plain_files_only(self):
        self.assertIn("__init__.py", [path.name for path in package_files()])
        for path in PACKAGE.iterdir():
            if path.name != "__pycache__":
                self.assertRegex(path.name, r"\A([a-z][a-z0-9_]*|__init__|__main__)\.py\Z")

    def test_characters_and_sizes(self):
        for path in package_files():
            text = path.read_bytes().decode("ascii")
            self.assertRegex(text, r"\A[ -~\n]*\Z", path.name)
            lines = text.splitlines()
            self.assertLessEqual(len(lines), 400, path.name)
            self.assertLessEqual(max(map(len, lines), default=0), 120, path.name)

    def test_functions_are_short(self):
        for place, node in walked_files():
            if isinstance(node, ast.FunctionDef):
                self.assertLessEqual(node.end_lineno - node.lineno + 1, 40, place)

    def test_barred_words(self):
        for path in package_files():
            text = path.read_text(encoding="utf-8")
            self.assertFalse(BARRED_WORDS & set(re.findall(r"\w+", text)), path.name)
            self.assertFalse([part for part in BARRED_PARTS if part in text], path.name)

    def test_imports_name_files_of_the_package(self):
        for place, node in walked_files():
            if isinstance(node, ast.ImportFrom) and node.module != "__future__":
                self.assertEqual(node.level, 0, place)
                package, _, file = node.module.partition(".")
                self.assertEqual(package, "hunch", place)
                self.assertTrue((PACKAGE / (file + ".py")).is_file(), place)
                self.assertNotIn("*", [alias.name for alias in node.names], place)

    def test_barred_statements_and_signs(self):
        for place, node in walked_files():
            self.assertNotIsInstance(node, BARRED_NODES, place)
            if isinstance(node, ast.Constant):
                self.assertNotIsInstance(node.value, (float, complex), place)
                self.assertNotIn("%", node.value if isinstance(node.value, str) else "", place)

    def test_module_level(self):
        allowed = (ast.ImportFrom, ast.FunctionDef, ast.ClassDef, ast.Assign)
        for path in package_files():
            for at, node in enumerate(parsed(path).body):
                docstring = at == 0 and isinstance(node, ast.Expr)
                self.assertTrue(docstring or isinstance(node, allowed), (path.name, node.lineno))

    def test_names_are_plain_and_no_builtins(self):
        for path in package_files():
            tree = parsed(path)
            methods = [(method.name, method.lineno) for method in methods_of(tree)]
            for name, line in bound_names(tree):
                if (name, line) not in methods:
                    self.assertRegex(name, r"\A[A-Za-z][A-Za-z0-9_]*\Z", (path.name, line))
                    self.assertFalse(hasattr(builtins, name), (path.name, line))

    def test_builtins_that_are_used(self):
        for place, node in walked_files():
            if isinstance(node, ast.Name) and hasattr(builtins, node.id):
                self.assertIn(node.id, BUILTINS, place)

    def test_methods_that_are_called(self):
        own = {method.name for path in package_files() for method in methods_of(parsed(path))}
        for place, node in walked_files():
            if isinstance(node, ast.Call) and isinstance(node.func, ast.Attribute):
                self.assertIn(node.func.attr, METHODS | own, place)

    def test_names_that_are_not_used(self):
        for path in package_files():
            for name, line in bound_names(parsed(path)):
                self.assertNotIn(name, BARRED_NAMES, (path.name, line))

    def test_methods_and_attributes_have_names_of_their_own(self):
        trees = [parsed(path) for path in package_files()]
        methods = {method.name for tree in trees for method in methods_of(tree)}
        attributes = set().union(*[attributes_assigned(tree) for tree in trees])
        self.assertFalse(methods & attributes)
        self.assertFalse(attributes & BARRED_ATTRIBUTES)
        for place, node in walked_files():
            if isinstance(node, ast.Attribute):
                self.assertIn(node.attr, methods | attributes | METHODS, place)

    def test_no_files_import_from_each_other(self):
        left = {path.stem: imported_files(path) for path in package_files()}
        while left:
            free = [name for name in left if not left[name] & set(left)]
            self.assertTrue(free, left)
            for name in free:
                del left[name]

    def test_each_import_names_the_file_that_defines_it(self):
        for place, node in walked_files():
            if isinstance(node, ast.ImportFrom) and node.module != "__future__":
                tree = parsed(PACKAGE / (node.module.partition(".")[2] + ".py"))
                own = {part.name for part in tree.body
                       if isinstance(part, (ast.FunctionDef, ast.ClassDef))}
                own |= {target.id for part in tree.body if isinstance(part, ast.Assign)
                        for target in part.targets}
                self.assertLessEqual({alias.name for alias in node.names}, own, place)

    def test_no_local_name_is_that_of_a_class_or_an_import(self):
        for path in package_files():
            tree = parsed(path)
            taken = {node.name for node in tree.body if isinstance(node, ast.ClassDef)}
            taken |= {alias.name for node in tree.body if isinstance(node, ast.ImportFrom)
                      for alias in node.names}
            for node in ast.walk(tree):
                if isinstance(node, ast.arg):
                    self.assertNotIn(node.arg, taken, (path.name, node.lineno))
                if isinstance(node, ast.Name) and isinstance(node.ctx, ast.Store):
                    self.assertNotIn(node.id, taken, (path.name, node.lineno))

    def test_is_stands_beside_none_true_and_false(self):
        for place, node in walked_files():
            if isinstance(node, ast.Compare):
                for sign, right in zip(node.ops, node.comparators):
                    if isinstance(sign, (ast.Is, ast.IsNot)):
                        self.assertIsInstance(right, ast.Constant, place)
                        self.assertTrue(right.value is None or isinstance(right.value, bool), place)


if __name__ == "__main__":
    unittest.main()
