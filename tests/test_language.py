"""The language: what a look at the package's files can tell of its rules."""

import ast
import pathlib
import re
import unittest

PACKAGE = pathlib.Path(__file__).resolve().parent.parent / "crossloom"
FILES = sorted(PACKAGE.rglob("*.py"))
BUILTINS = set(
    "len range enumerate zip min max sum abs sorted reversed int str bool list tuple dict set isinstance ord repr any "
    "all divmod map iter next Exception ValueError TypeError KeyError IndexError LookupError ZeroDivisionError "
    "ArithmeticError OverflowError RuntimeError NotImplementedError AttributeError StopIteration".split())
METHODS = set(
    "append clear copy count endswith extend find get index insert isalnum isalpha isdigit islower isspace isupper "
    "items join keys ljust lower lstrip partition pop remove replace reverse rfind rjust rpartition rsplit rstrip "
    "setdefault split splitlines startswith strip update upper values zfill bit_length add discard sort".split())
LIBRARY = {"heapq", "math", "itertools", "collections"}
BARRED = (ast.AsyncFunctionDef, ast.Global, ast.Await, ast.AnnAssign, ast.Div, ast.SetComp, ast.Set)
BARRED_WORDS = set(
    "type typing enum Enum Generic Protocol ABC namedtuple NamedTuple TypedDict dataclass overload".split())
BARRED_NAMES = set(
    "register mro elements open input law version_info with_traceback add_note eval exec exit id dir globals locals "
    "vars super type setattr getattr hasattr delattr hash next map round filter format object pow chr print".split())


def trees():
    """Return (file's name, its tree) for each file of the package."""
    return [(path.name, ast.parse(path.read_text(encoding="ascii"))) for path in FILES]


def nodes(kind):
    """Return (file's name and line, node) for each node of a kind in the package; signs have no line."""
    rows = [(name, node) for name, tree in trees() for node in ast.walk(tree)]
    return [((name, getattr(node, "lineno", 0)), node) for name, node in rows if isinstance(node, kind)]


class Language(unittest.TestCase):
    def test_files(self):
        self.assertIn(PACKAGE / "__init__.py", FILES)
        for path in PACKAGE.rglob("*"):
            if "__pycache__" not in path.parts:
                self.assertTrue(re.fullmatch(r"[a-z_][a-z0-9_]*\.py", path.name), path)

    def test_characters_and_sizes(self):
        for path in FILES:
            text = path.read_bytes().decode("ascii")
            self.assertTrue(all(" " <= sign <= "~" or sign == "\n" for sign in text), path)
            self.assertLessEqual(len(text.splitlines()), 399, path)
            self.assertLessEqual(max(len(line) for line in text.splitlines()), 120, path)

    def test_functions_are_small_and_told(self):
        for place, node in nodes(ast.FunctionDef):
            self.assertLessEqual(node.end_lineno - node.lineno + 1, 40, place)
            self.assertEqual(node.decorator_list, [], place)
            self.assertTrue(node.name == "__init__" or ast.get_docstring(node), place)

    def test_imports(self):
        self.assertEqual([place for place, _ in nodes(ast.Import)], [])
        for place, node in nodes(ast.ImportFrom):
            self.assertEqual(node.level, 0, place)
            top, _, rest = node.module.partition(".")
            self.assertTrue(top in LIBRARY or top == "crossloom" and (PACKAGE / f"{rest}.py").is_file(), place)

    def test_no_two_files_import_from_each_other(self):
        needs = {}
        for path in FILES:
            found = re.findall(r"^from crossloom\.(\w+) import", path.read_text(), re.M)
            needs[path.stem] = set(found)
        while needs:
            free = [name for name in needs if not needs[name]]
            self.assertNotEqual(free, [], needs)
            needs = {name: row - set(free) for name, row in needs.items() if name not in free}

    def test_module_level(self):
        for name, tree in trees():
            for node in tree.body:
                plain = isinstance(node, (ast.Assign, ast.FunctionDef, ast.ClassDef, ast.ImportFrom))
                docstring = node is tree.body[0] and isinstance(node, ast.Expr)
                self.assertTrue(plain or docstring, (name, node.lineno))

    def test_nothing_of_what_is_barred(self):
        for place, node in nodes(BARRED):
            self.fail(f"{place}: {node}")
        for place, node in nodes(ast.Constant):
            self.assertNotIsInstance(node.value, (float, complex), place)
            self.assertFalse(isinstance(node.value, str) and "%" in node.value, place)
        for place, node in nodes(ast.Compare):
            if any(isinstance(sign, (ast.Is, ast.IsNot)) for sign in node.ops):
                self.assertIn(ast.unparse(node.comparators[-1]), ("None", "True", "False"), place)

    def test_names(self):
        own = {node.name for _, node in nodes((ast.FunctionDef, ast.ClassDef))}
        own |= {alias.name for _, node in nodes(ast.ImportFrom) for alias in node.names}
        for place, node in nodes(ast.Name):
            if isinstance(node.ctx, ast.Store):
                self.assertNotIn(node.id, BUILTINS | BARRED_NAMES, place)
        for place, node in nodes(ast.arg):
            self.assertNotIn(node.arg, BUILTINS | BARRED_NAMES, place)
        # A function that is handed in is called by its parameter's name.
        handed = {(place[0], one.arg) for place, node in nodes(ast.FunctionDef) for one in node.args.args}
        for place, node in nodes(ast.Call):
            if isinstance(node.func, ast.Name) and (place[0], node.func.id) not in handed:
                self.assertIn(node.func.id, BUILTINS | own, place)
            if isinstance(node.func, ast.Attribute):
                self.assertIn(node.func.attr, METHODS | own, place)

    def test_words(self):
        for path in FILES:
            words = set(re.findall(r"\w+", re.sub(r'"""(?s:.*?)"""|#.*', "", path.read_text())))
            self.assertEqual(words & BARRED_WORDS, set(), path)

    def test_no_local_name_is_an_import_or_a_class(self):
        for name, tree in trees():
            taken = {node.name for node in tree.body if isinstance(node, ast.ClassDef)}
            taken |= {alias.name for node in tree.body if isinstance(node, ast.ImportFrom) for alias in node.names}
            for node in ast.walk(tree):
                stored = isinstance(node, ast.Name) and isinstance(node.ctx, ast.Store) and node.id in taken
                handed = isinstance(node, ast.arg) and node.arg in taken
                self.assertFalse(stored or handed, (name, getattr(node, "lineno", 0)))
