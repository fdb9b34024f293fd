"""The rules of ../shared/LANGUAGE.md that a short look at the package's files can see."""

import ast
import builtins
import pathlib
import re
import unittest

PACKAGE = pathlib.Path(__file__).resolve().parent.parent / "sameanswers"
FILES = sorted(PACKAGE.glob("*.py"))

LIBRARY = {
    "heapq": ("heappush", "heappop", "heapify", "heapreplace", "heappushpop"),
    "math": ("gcd", "lcm", "isqrt", "comb", "perm", "factorial"),
    "itertools": tuple("product combinations permutations chain accumulate pairwise islice zip_longest".split()),
    "collections": ("defaultdict", "deque"),
    "__future__": ("annotations",),
}
BUILTINS = """
len range enumerate zip min max sum abs sorted reversed int str bool bytes list tuple dict set isinstance ord repr any
all divmod pow getattr hasattr setattr iter next map type super property staticmethod classmethod object Exception
ValueError TypeError KeyError IndexError LookupError ZeroDivisionError ArithmeticError OverflowError RuntimeError
NotImplementedError AttributeError StopIteration NotImplemented
""".split()
METHODS = """
append clear copy count endswith extend find get index insert isalnum isalpha isdigit islower isspace isupper items join
keys ljust lower lstrip partition pop remove replace reverse rfind rjust rpartition rsplit rstrip setdefault split
splitlines startswith strip update upper values zfill bit_length title capitalize swapcase casefold center expandtabs
removeprefix removesuffix rindex isascii isdecimal isnumeric istitle isidentifier isprintable translate maketrans sort
format add discard encode decode hex appendleft popleft extendleft rotate
""".split()
BUILTIN_METHODS = {name for kind in (str, int, bytes, list, tuple, dict, set) for name in dir(kind)}
SPECIAL = """
__init__ __eq__ __repr__ __str__ __len__ __enter__ __exit__ __call__ __iter__ __lt__ __le__ __gt__ __ge__ __ne__
__bool__ __contains__ __getitem__ __setitem__ __neg__ __pos__ __invert__ __abs__ __pow__ __ipow__
""".split()
for sign in ("add", "sub", "mul", "floordiv", "mod", "and", "or", "xor", "lshift", "rshift"):
    SPECIAL += [f"__{sign}__", f"__r{sign}__", f"__i{sign}__"]
BARRED = ("register", "mro", "elements", "open", "input", "law", "version_info", "with_traceback", "add_note")
AT_MODULE_LEVEL = (ast.Expr, ast.ImportFrom, ast.FunctionDef, ast.ClassDef, ast.Assign)
NOT_ALLOWED = (ast.AsyncFunctionDef, ast.Await, ast.AsyncFor, ast.AsyncWith, ast.Div, ast.MatMult, ast.Import)


def trees():
    return [(path, ast.parse(path.read_text(encoding="utf-8"))) for path in FILES]


def docstrings(tree):
    for node in ast.walk(tree):
        if isinstance(node, (ast.Module, ast.ClassDef, ast.FunctionDef)) and node.body:
            first = node.body[0]
            if isinstance(first, ast.Expr) and isinstance(first.value, ast.Constant):
                yield first.value


def bound_names(tree):
    methods = [row for node in ast.walk(tree) if isinstance(node, ast.ClassDef) for row in node.body]
    for node in ast.walk(tree):
        if isinstance(node, (ast.FunctionDef, ast.ClassDef)) and node not in methods:
            yield node.name, node.lineno
        elif isinstance(node, ast.arg):
            yield node.arg, node.lineno
        elif isinstance(node, ast.Name) and isinstance(node.ctx, ast.Store):
            yield node.id, node.lineno


def defined_names(tree):
    for row in tree.body:
        if isinstance(row, (ast.FunctionDef, ast.ClassDef)):
            yield row.name
        elif isinstance(row, ast.Assign):
            for target in row.targets:
                yield target.id


class LanguageTest(unittest.TestCase):
    def assert_no_faults(self, faults):
        self.assertEqual([f"{path.name}:{line}: {what}" for path, line, what in faults], [])

    def test_the_folder_holds_plain_files_only(self):
        for path in PACKAGE.iterdir():
            if path.name != "__pycache__":
                self.assertTrue(re.fullmatch("[a-z0-9_]+[.]py", path.name), path.name)
        self.assertTrue((PACKAGE / "__init__.py").is_file())

    def test_sizes(self):
        faults = []
        for path, tree in trees():
            lines = path.read_text(encoding="utf-8").split("\n")
            faults += [(path, k + 1, "too long") for k, line in enumerate(lines) if len(line) > 120]
            faults += [(path, 400, "too many lines")] if len(lines) > 400 else []
            for node in ast.walk(tree):
                if isinstance(node, ast.FunctionDef) and node.end_lineno - node.lineno >= 40:
                    faults.append((path, node.lineno, "long function"))
        self.assert_no_faults(faults)

    def test_characters(self):
        faults = []
        for path, tree in trees():
            for k, line in enumerate(path.read_bytes().split(b"\n")):
                if any(byte < 32 or byte > 126 for byte in line):
                    faults.append((path, k + 1, "character"))
            told = [id(node) for node in docstrings(tree)]
            for node in ast.walk(tree):
                if isinstance(node, ast.Constant) and isinstance(node.value, str) and id(node) not in told:
                    if "%" in node.value:
                        faults.append((path, node.lineno, "percent sign"))
        self.assert_no_faults(faults)

    def test_imports(self):
        defined = {path.stem: list(defined_names(tree)) for path, tree in trees()}
        faults = []
        for path, tree in trees():
            # Only a docstring, the one bare expression of a file, may stand above the imports.
            kinds = [isinstance(row, ast.ImportFrom) for row in tree.body if not isinstance(row, ast.Expr)]
            if sorted(kinds, reverse=True) != kinds:
                faults.append((path, 1, "imports stand at the top"))
            for row in [node for node in ast.walk(tree) if isinstance(node, ast.ImportFrom)]:
                top, _, module = row.module.partition(".")
                known = defined.get(module, ()) if top == "sameanswers" else LIBRARY.get(row.module, ())
                for name in row.names:
                    if row.level or name.name not in known:
                        faults.append((path, row.lineno, f"import of {name.name}"))
        self.assert_no_faults(faults)

    def test_statements_and_signs(self):
        faults = []
        for path, tree in trees():
            for row in tree.body:
                if not isinstance(row, AT_MODULE_LEVEL):
                    faults.append((path, row.lineno, "at module level"))
            for node in ast.walk(tree):
                if isinstance(node, NOT_ALLOWED) or isinstance(node, ast.Constant) and isinstance(node.value, float):
                    faults.append((path, getattr(node, "lineno", 0), type(node).__name__))
        self.assert_no_faults(faults)

    def test_names(self):
        faults = []
        for path, tree in trees():
            for name, line in bound_names(tree):
                if hasattr(builtins, name) or name in BARRED or name.startswith("__"):
                    faults.append((path, line, name))
            for node in ast.walk(tree):
                if isinstance(node, ast.Name) and hasattr(builtins, node.id) and node.id not in BUILTINS:
                    faults.append((path, node.lineno, node.id))
                if isinstance(node, ast.Attribute) and node.attr in BUILTIN_METHODS:
                    if node.attr not in METHODS + ["__init__"]:
                        faults.append((path, node.lineno, node.attr))
        self.assert_no_faults(faults)

    def test_attributes_are_assigned_through_a_name(self):
        faults = []
        for path, tree in trees():
            for node in ast.walk(tree):
                if isinstance(node, ast.Attribute) and not isinstance(node.ctx, ast.Load):
                    if not isinstance(node.value, ast.Name):
                        faults.append((path, node.lineno, node.attr))
        self.assert_no_faults(faults)

    def test_no_two_files_import_from_each_other(self):
        needs = {}
        for path, tree in trees():
            found = [row.module.partition(".")[2] for row in tree.body if isinstance(row, ast.ImportFrom)]
            needs[path.stem] = [name for name in found if name]
        for name in needs:
            # All that a file needs, directly or not; the file itself is not among it.
            reached, waiting = set(), list(needs[name])
            while waiting:
                other = waiting.pop()
                if other not in reached:
                    reached.add(other)
                    waiting += needs[other]
            self.assertNotIn(name, reached)

    def test_no_variable_has_the_name_of_a_class_or_an_import(self):
        faults = []
        for path, tree in trees():
            rows = [row for row in tree.body if isinstance(row, ast.ImportFrom)]
            taken = [name.name for row in rows for name in row.names]
            taken += [row.name for row in tree.body if isinstance(row, ast.ClassDef)]
            for node in ast.walk(tree):
                if isinstance(node, ast.arg) and node.arg in taken:
                    faults.append((path, node.lineno, node.arg))
                if isinstance(node, ast.Name) and isinstance(node.ctx, ast.Store) and node.id in taken:
                    faults.append((path, node.lineno, node.id))
        self.assert_no_faults(faults)

    def test_classes(self):
        faults = []
        for path, tree in trees():
            for node in [node for node in ast.walk(tree) if isinstance(node, ast.ClassDef)]:
                if node.decorator_list or node.keywords:
                    faults.append((path, node.lineno, "class"))
                for row in node.body:
                    if isinstance(row, ast.FunctionDef) and row.name.startswith("__") and row.name not in SPECIAL:
                        faults.append((path, row.lineno, row.name))
        self.assert_no_faults(faults)


if __name__ == "__main__":
    unittest.main()
