"""Those rules of the language subset that can be seen from one file at a time."""

import ast
import builtins
import pathlib
import unittest

PACKAGE = pathlib.Path(__file__).resolve().parent.parent / "textshards"
FILES = sorted(PACKAGE.glob("*.py"))

LIBRARY = {"heapq": ("heappush", "heappop", "heapify", "heapreplace", "heappushpop"),
           "math": ("gcd", "lcm", "isqrt", "comb", "perm", "factorial"),
           "itertools": ("product", "combinations", "permutations", "chain", "accumulate", "pairwise", "islice",
                         "zip_longest"),
           "collections": ("defaultdict",)}
BUILTINS = set("""len range enumerate zip min max sum abs sorted reversed int str bool list tuple dict set isinstance
    ord repr any all divmod pow iter next map ValueError TypeError KeyError IndexError LookupError ZeroDivisionError
    NotImplemented property staticmethod classmethod super""".split())
METHODS = set("""append clear copy count endswith extend find get index insert isalnum isalpha isdigit islower isspace
    isupper items join keys ljust lower lstrip partition pop remove replace reverse rfind rjust rpartition rsplit rstrip
    setdefault split splitlines startswith strip update upper values zfill bit_length""".split())
DOUBLE = set("__init__ __eq__ __repr__ __str__ __len__ __contains__ __call__ __iter__".split())
BARRED = (ast.Global, ast.AsyncFunctionDef, ast.AsyncFor, ast.AsyncWith, ast.Await, ast.Div, ast.Import, ast.Yield,
          ast.YieldFrom, ast.AnnAssign, ast.MatMult)
PLAIN = (ast.Constant, ast.Tuple, ast.List, ast.Dict, ast.UnaryOp)


def trees():
    return [(path, ast.parse(path.read_text())) for path in FILES]


def names_bound(tree):
    """Every name that a file gives a meaning, but those of methods and attributes."""
    methods = {id(node) for owner in ast.walk(tree) if isinstance(owner, ast.ClassDef) for node in owner.body}
    for node in ast.walk(tree):
        if isinstance(node, ast.Name) and isinstance(node.ctx, ast.Store):
            yield node.id
        elif isinstance(node, ast.arg):
            yield node.arg
        elif isinstance(node, (ast.FunctionDef, ast.ClassDef)) and id(node) not in methods:
            yield node.name


def own_methods():
    return {node.name for _, tree in trees() for owner in ast.walk(tree) if isinstance(owner, ast.ClassDef)
            for node in owner.body if isinstance(node, ast.FunctionDef)}


class LanguageTest(unittest.TestCase):
    def test_the_package_holds_python_files_only(self):
        others = [path for path in PACKAGE.iterdir() if path.suffix != ".py" and path.name != "__pycache__"]
        self.assertEqual(others, [])
        self.assertIn(PACKAGE / "__init__.py", FILES)

    def test_sizes_and_characters(self):
        for path in FILES:
            text = path.read_text()
            lines = text.split("\n")
            self.assertTrue(all(" " <= sign <= "~" or sign == "\n" for sign in text), path)
            self.assertLess(len(lines), 400, path)
            self.assertLessEqual(max(len(line) for line in lines), 120, path)

    def test_functions_are_short(self):
        for path, tree in trees():
            for node in ast.walk(tree):
                if isinstance(node, ast.FunctionDef):
                    self.assertLessEqual(node.end_lineno - node.lineno + 1, 40, (path, node.name))

    def test_imports(self):
        defined = {"textshards." + path.stem: {node.name for node in tree.body if hasattr(node, "name")}
                   | {node.targets[0].id for node in tree.body if isinstance(node, ast.Assign)}
                   for path, tree in trees()}
        for path, tree in trees():
            for node in ast.walk(tree):
                if isinstance(node, ast.ImportFrom):
                    self.assertIn(node, tree.body, path)
                    known = defined.get(node.module, LIBRARY.get(node.module, ()))
                    for alias in node.names:
                        self.assertIn(alias.name, known, path)
                        self.assertIsNone(alias.asname, path)

    def test_no_two_files_import_from_each_other(self):
        above = {"textshards." + path.stem: [node.module for node in tree.body if isinstance(node, ast.ImportFrom)]
                 for path, tree in trees()}
        while above:
            free = [name for name in above if not any(other in above for other in above[name])]
            self.assertNotEqual(free, [], above)
            above = {name: above[name] for name in above if name not in free}

    def test_module_level(self):
        for path, tree in trees():
            for node in tree.body:
                if isinstance(node, ast.Assign):
                    self.assertIsInstance(node.value, PLAIN, path)
                elif isinstance(node, ast.Expr):
                    self.assertIsInstance(node.value, ast.Constant, path)
                else:
                    self.assertIsInstance(node, (ast.ImportFrom, ast.FunctionDef, ast.ClassDef), path)

    def test_statements_and_signs(self):
        for path, tree in trees():
            for node in ast.walk(tree):
                self.assertNotIsInstance(node, BARRED, path)
                if isinstance(node, ast.Constant):
                    self.assertNotIsInstance(node.value, (float, complex, bytes), path)
                    self.assertFalse(isinstance(node.value, str) and "%" in node.value, path)
                if isinstance(node, ast.Compare) and any(isinstance(op, (ast.Is, ast.IsNot)) for op in node.ops):
                    self.assertIsInstance(node.comparators[0], ast.Constant, path)

    def test_names(self):
        # Examples that are run leave their last answer there.
        everything = set(dir(builtins)) - {"_"}
        for path, tree in trees():
            imported = {alias.name for node in tree.body if isinstance(node, ast.ImportFrom) for alias in node.names}
            bound = list(names_bound(tree))
            self.assertEqual([name for name in bound if name in everything or name in imported], [], path)
            used = {node.id for node in ast.walk(tree) if isinstance(node, ast.Name)} & everything
            self.assertEqual(used - BUILTINS, set(), path)

    def test_methods(self):
        allowed = METHODS | own_methods()
        for path, tree in trees():
            for node in ast.walk(tree):
                if isinstance(node, ast.Call) and isinstance(node.func, ast.Attribute):
                    self.assertIn(node.func.attr, allowed, path)

    def test_classes(self):
        for path, tree in trees():
            for owner in [node for node in ast.walk(tree) if isinstance(node, ast.ClassDef)]:
                self.assertIn(owner, tree.body, path)
                self.assertEqual(owner.decorator_list, [], path)
                for node in owner.body:
                    if isinstance(node, ast.FunctionDef) and node.name.startswith("__"):
                        self.assertIn(node.name, DOUBLE, path)

    def test_sets_are_used_where_they_are_written(self):
        for path, tree in trees():
            inside = {id(part) for node in ast.walk(tree) if isinstance(node, ast.Call)
                      and isinstance(node.func, ast.Name) and node.func.id in ("sorted", "len")
                      and not node.keywords for part in node.args}
            for node in ast.walk(tree):
                made = isinstance(node, (ast.Set, ast.SetComp))
                made = made or isinstance(node, ast.Call) and isinstance(node.func, ast.Name) and node.func.id == "set"
                if made:
                    self.assertIn(id(node), inside, (path, node.lineno))
