"""The form of the package: the rules of the language that a look at the files can tell."""

import ast
import builtins
import pathlib
import unittest

PACKAGE = pathlib.Path(__file__).resolve().parent.parent / "waitworks"
FILES = sorted(PACKAGE.rglob("*.py"))
LIBRARY = {
    "heapq": {"heappush", "heappop", "heapify", "heapreplace", "heappushpop"},
    "math": {"gcd", "lcm", "isqrt", "comb", "perm", "factorial"},
    "itertools": {"product", "combinations", "permutations"},
}
CALLED = set(
    "len range enumerate zip min max sum abs sorted reversed int str bool list tuple dict set isinstance ord repr any all divmod "
    "iter next map Exception ValueError TypeError KeyError IndexError LookupError RuntimeError NotImplementedError".split()
)
METHODS = set(
    "append clear copy count endswith extend find get index insert isalnum isalpha isdigit islower isspace isupper items join keys ljust "
    "lower lstrip partition pop remove replace reverse rfind rjust rpartition rsplit rstrip setdefault split splitlines startswith strip "
    "update upper values zfill bit_length title isascii isdecimal removeprefix removesuffix rindex add discard sort".split()
)
DOUBLE = set(
    "__init__ __eq__ __repr__ __str__ __len__ __enter__ __exit__ __call__ __iter__ __getitem__ __setitem__ __contains__ __lt__ __bool__".split()
)
BARRED = set("register mro elements open input law version_info with_traceback add_note type typing enum namedtuple dataclass".split())
AT_ONCE = {"zip", "enumerate", "reversed", "range", "map"}
TAKERS = {"list", "tuple", "dict", "sorted", "sum", "any", "all", "enumerate", "zip", "min", "max", "len", "join", "reversed"}
STATEMENTS = (
    ast.Assign, ast.AugAssign, ast.If, ast.While, ast.For, ast.Return, ast.Break, ast.Continue, ast.Pass, ast.Raise, ast.Assert, ast.Delete,
    ast.Nonlocal, ast.Match, ast.With, ast.Try, ast.Expr, ast.FunctionDef, ast.ClassDef, ast.ImportFrom,
)


def trees():
    for path in FILES:
        yield path, ast.parse(path.read_text(encoding="utf-8"))


def parents(tree):
    found = {}
    for node in ast.walk(tree):
        for child in ast.iter_child_nodes(node):
            found[child] = node
    return found


def name_of_call(node):
    if isinstance(node, ast.Call):
        return node.func.id if isinstance(node.func, ast.Name) else getattr(node.func, "attr", None)
    return None


def bound_names(tree):
    """All names that a tree binds: functions, classes, parameters, variables."""
    for node in ast.walk(tree):
        if isinstance(node, (ast.FunctionDef, ast.ClassDef)):
            yield node.name
        elif isinstance(node, ast.arg):
            yield node.arg
        elif isinstance(node, ast.Name) and not isinstance(node.ctx, ast.Load):
            yield node.id


class FormTest(unittest.TestCase):
    def test_files(self):
        self.assertLessEqual(len(FILES), 100)
        for path in PACKAGE.rglob("*"):
            if "__pycache__" not in path.parts:
                self.assertTrue(path.is_dir() or path.suffix == ".py", path)
        for path in FILES:
            text = path.read_text(encoding="utf-8")
            self.assertTrue(text.isascii() and "\t" not in text and "\r" not in text, path)
            self.assertLess(len(text.splitlines()), 400, path)
            for at, line in enumerate(text.splitlines()):
                self.assertLessEqual(len(line), 120, (path, at + 1))
        init = ast.parse((PACKAGE / "__init__.py").read_text(encoding="utf-8"))
        self.assertEqual(len(init.body), 1)
        self.assertIsNotNone(ast.get_docstring(init))

    def test_functions_are_short(self):
        for path, tree in trees():
            for node in ast.walk(tree):
                if isinstance(node, ast.FunctionDef):
                    self.assertLessEqual(node.end_lineno - node.lineno + 1, 40, (path, node.name))

    def test_statements(self):
        for path, tree in trees():
            for node in ast.walk(tree):
                if isinstance(node, ast.stmt):
                    self.assertIsInstance(node, STATEMENTS, (path, node.lineno))
            for node in tree.body:
                plain = isinstance(node, (ast.ImportFrom, ast.FunctionDef, ast.ClassDef, ast.Assign))
                self.assertTrue(plain or isinstance(node, ast.Expr) and isinstance(node.value, ast.Constant), (path, node.lineno))

    def test_imports(self):
        asks = {}
        for path, tree in trees():
            asks[path.stem] = []
            for node in ast.walk(tree):
                if isinstance(node, ast.ImportFrom):
                    self.assertIn(node, tree.body)
                    self.assertEqual(node.level, 0)
                    names = [alias.name for alias in node.names]
                    self.assertEqual([alias.asname for alias in node.names], [None] * len(names))
                    if node.module in LIBRARY:
                        self.assertLessEqual(set(names), LIBRARY[node.module])
                        continue
                    top, _, stem = node.module.partition(".")
                    self.assertEqual(top, "waitworks")
                    defined = ast.parse((PACKAGE / (stem + ".py")).read_text(encoding="utf-8")).body
                    here = [one.name for one in defined if isinstance(one, (ast.FunctionDef, ast.ClassDef))]
                    here += [target.id for one in defined if isinstance(one, ast.Assign) for target in one.targets]
                    self.assertLessEqual(set(names), set(here), path)
                    asks[path.stem].append(stem)
        done = set()
        while len(done) < len(asks):
            free = {stem for stem, asked in asks.items() if stem not in done and set(asked) <= done}
            self.assertTrue(free, "files import from each other")
            done |= free

    def test_names(self):
        for path, tree in trees():
            taken = {alias.name for node in tree.body if isinstance(node, ast.ImportFrom) for alias in node.names}
            taken |= {node.name for node in tree.body if isinstance(node, ast.ClassDef)}
            methods = {one.name for node in tree.body if isinstance(node, ast.ClassDef) for one in node.body if isinstance(one, ast.FunctionDef)}
            inner = [one for node in tree.body if isinstance(node, (ast.FunctionDef, ast.ClassDef)) for one in ast.iter_child_nodes(node)]
            for node in inner:
                for name in bound_names(node):
                    self.assertTrue(name in methods or name not in taken, (path, name))
            top = [node.name for node in tree.body if isinstance(node, (ast.FunctionDef, ast.ClassDef))]
            self.assertEqual(len(set(top)), len(top))
            for name in bound_names(tree):
                self.assertTrue(name == "_" or name in methods or not hasattr(builtins, name), (path, name))
                self.assertNotIn(name, BARRED)
                self.assertTrue(name in DOUBLE or not name.startswith("__"), (path, name))

    def test_words(self):
        for path, tree in trees():
            for node in ast.walk(tree):
                if isinstance(node, ast.Constant):
                    self.assertNotIsInstance(node.value, (float, complex), (path, node.lineno))
                    if isinstance(node.value, str):
                        self.assertNotIn("%", node.value)
                        self.assertNotIn("type", node.value.split())
                if isinstance(node, ast.BinOp):
                    self.assertNotIsInstance(node.op, (ast.Div, ast.MatMult), (path, node.lineno))
                    if isinstance(node.op, ast.Pow):
                        self.assertIsInstance(node.right, ast.Constant)
                if isinstance(node, ast.Attribute):
                    self.assertNotIn(node.attr, BARRED | {"format", "sort", "args"})
                if isinstance(node, ast.Name):
                    self.assertFalse(node.id == "_" and isinstance(node.ctx, ast.Load), (path, node.lineno))
                if isinstance(node, ast.Compare):
                    for op, right in zip(node.ops, node.comparators):
                        if isinstance(op, (ast.Is, ast.IsNot)):
                            self.assertTrue(isinstance(right, ast.Constant) and right.value in (None, True, False), (path, node.lineno))

    def test_calls(self):
        own = {one.name for _, tree in trees() for one in ast.walk(tree) if isinstance(one, (ast.FunctionDef, ast.ClassDef))}
        for path, tree in trees():
            around = parents(tree)
            for node in ast.walk(tree):
                if isinstance(node, ast.GeneratorExp):
                    # Classes have their own equality, so that the others take lists.
                    self.assertIn(name_of_call(around[node]), ("list", "tuple", "dict", "join"), (path, node.lineno))
                if isinstance(node, ast.Call) and isinstance(node.func, ast.Name):
                    name = node.func.id
                    self.assertTrue(name in CALLED or name in own or not hasattr(builtins, name), (path, node.lineno, name))
                    if name in AT_ONCE:
                        self.check_taken_at_once(path, node, around)
                    if name == "set":
                        self.assertTrue(isinstance(around[node], (ast.Compare, ast.Call, ast.Assign)), (path, node.lineno))
                if isinstance(node, ast.Call) and isinstance(node.func, ast.Attribute):
                    self.assertIn(node.func.attr, METHODS | own, (path, node.lineno))
                    if node.func.attr in ("items", "keys", "values"):
                        self.check_taken_at_once(path, node, around)
                if isinstance(node, ast.Starred) and isinstance(around[node], ast.Call):
                    plain = (ast.Name, ast.Attribute, ast.List, ast.Tuple, ast.Constant)
                    self.assertIsInstance(node.value, plain, (path, node.lineno))

    def check_taken_at_once(self, path, node, around):
        taker = around[node]
        good = isinstance(taker, (ast.For, ast.comprehension)) and taker.iter is node
        good = good or name_of_call(taker) in TAKERS
        good = good or isinstance(taker, ast.Assign) and name_of_call(node) == "range"
        self.assertTrue(good, (path, node.lineno))

    def test_errors(self):
        for path, tree in trees():
            for node in ast.walk(tree):
                if isinstance(node, ast.ExceptHandler):
                    self.assertIsNotNone(node.type, (path, node.lineno))
                if isinstance(node, ast.Raise) and node.exc is not None:
                    self.assertIsInstance(node.exc, ast.Call, (path, node.lineno))
                if isinstance(node, ast.FunctionDef):
                    for decorator in node.decorator_list:
                        self.assertIn(getattr(decorator, "id", None), ("property", "staticmethod", "classmethod"))
                if isinstance(node, ast.ClassDef):
                    self.assertEqual(node.decorator_list, [])
                    methods = [one.name for one in node.body if isinstance(one, ast.FunctionDef)]
                    self.assertEqual(len(set(methods)), len(methods))
                    if "__getitem__" in methods:
                        self.assertIn("__iter__", methods)


if __name__ == "__main__":
    unittest.main()
