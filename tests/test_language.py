"""The package keeps to the subset of the language: the rules that a look at each file can tell."""

import ast
import builtins
import pathlib
import unittest

PACKAGE = pathlib.Path(__file__).resolve().parent.parent / "allnear"
LIBRARY = {
    "heapq": {"heappush", "heappop", "heapify", "heapreplace", "heappushpop"},
    "math": {"gcd", "lcm", "isqrt", "comb", "perm", "factorial"},
    "itertools": {"product", "combinations", "permutations", "chain", "accumulate", "pairwise", "islice",
                  "zip_longest"},
    "collections": {"defaultdict", "deque"},
}
BUILTINS = set("""
    len range enumerate zip min max sum abs sorted reversed int str bool bytes list tuple dict set frozenset
    isinstance ord repr any all divmod pow getattr hasattr setattr iter next map type super property staticmethod
    classmethod Exception ValueError TypeError KeyError IndexError LookupError ZeroDivisionError ArithmeticError
    OverflowError RuntimeError NotImplementedError AttributeError StopIteration NotImplemented object float
""".split())
METHODS = set("""
    append clear copy count endswith extend find get index insert isalnum isalpha isdigit islower isspace isupper
    items join keys ljust lower lstrip partition pop remove replace reverse rfind rjust rpartition rsplit rstrip
    setdefault split splitlines startswith strip update upper values zfill bit_length title capitalize swapcase
    casefold center expandtabs removeprefix removesuffix rindex isascii isdecimal isnumeric istitle isidentifier
    isprintable add discard sort appendleft popleft extendleft rotate format translate __init__
""".split())
DUNDERS = set("""
    __init__ __eq__ __repr__ __str__ __len__ __enter__ __exit__ __call__ __iter__ __lt__ __le__ __gt__ __ge__ __ne__
    __add__ __sub__ __mul__ __floordiv__ __mod__ __pow__ __and__ __or__ __xor__ __lshift__ __rshift__ __neg__
    __pos__ __invert__ __abs__ __bool__ __contains__ __getitem__ __setitem__
""".split())
WORDS = set("""
    typing typing_extensions enum Enum IntEnum StrEnum Flag IntFlag Generic Protocol ABC ABCMeta namedtuple
    NamedTuple TypedDict TYPE_CHECKING abstractmethod register mro elements open input law version_info
    with_traceback add_note
""".split())
STATEMENTS = (ast.Assign, ast.AnnAssign, ast.AugAssign, ast.If, ast.While, ast.For, ast.Return, ast.Break, ast.Continue,
              ast.Pass, ast.Raise, ast.Assert, ast.Delete, ast.Nonlocal, ast.Global, ast.Match, ast.With, ast.Expr,
              ast.Try, ast.FunctionDef, ast.ClassDef, ast.ImportFrom)


def read_files():
    """The name, the text and the tree of each file of the package."""
    return [(path.name, path.read_text(encoding="utf-8"), ast.parse(path.read_text(encoding="utf-8")))
            for path in sorted(PACKAGE.glob("*.py"))]


FILES = read_files()


def nodes(*kinds):
    """All nodes of these kinds, with the file and the line for a message."""
    return [(f"{name}:{getattr(node, 'lineno', 0)}", node) for name, _, tree in FILES for node in ast.walk(tree)
            if isinstance(node, kinds)]


def bound_names(tree):
    """The names that parameters, assignments, loops and functions give, but not attributes."""
    out = [node.id for node in ast.walk(tree) if isinstance(node, ast.Name) and not isinstance(node.ctx, ast.Load)]
    return out + [node.arg for node in ast.walk(tree) if isinstance(node, ast.arg)]


class Files(unittest.TestCase):
    """L1, L10, L14: files, sizes, characters."""

    def test_folder(self):
        names = [path.name for path in PACKAGE.iterdir() if path.name != "__pycache__"]
        self.assertIn("__init__.py", names)
        for name in names:
            self.assertRegex(name, r"\A[a-z0-9_]+\.py\Z")

    def test_sizes(self):
        for name, text, _ in FILES:
            lines = text.split("\n")
            self.assertLess(len(lines), 400, name)
            for line in lines:
                self.assertLess(len(line), 121, name)
        for where, node in nodes(ast.FunctionDef):
            self.assertLess(node.end_lineno - node.lineno, 40, where)

    def test_characters(self):
        for name, text, _ in FILES:
            self.assertTrue(all(" " <= sign <= "~" or sign == "\n" for sign in text), name)

    def test_top_level(self):
        for name, _, tree in FILES:
            for node in tree.body:
                docstring = isinstance(node, ast.Expr) and isinstance(node.value, ast.Constant)
                plain = isinstance(node, (ast.ImportFrom, ast.FunctionDef, ast.ClassDef, ast.Assign))
                self.assertTrue(docstring or plain, name)


class Imports(unittest.TestCase):
    """L2, L16: imports."""

    def test_what_is_imported(self):
        trees = {name: tree for name, _, tree in FILES}
        self.assertEqual(nodes(ast.Import), [])
        for where, node in nodes(ast.ImportFrom):
            told = {alias.name for alias in node.names}
            self.assertEqual([node.level] + [alias.asname for alias in node.names], [0] + [None] * len(told), where)
            if node.module in LIBRARY:
                self.assertLessEqual(told, LIBRARY[node.module], where)
                continue
            self.assertTrue(node.module.startswith("allnear."), where)
            body = trees[node.module[len("allnear."):] + ".py"].body
            made = {one.name for one in body if isinstance(one, (ast.FunctionDef, ast.ClassDef))}
            made |= {one.targets[0].id for one in body if isinstance(one, ast.Assign)}
            self.assertLessEqual(told, made, where)

    def test_all_are_used(self):
        for name, _, tree in FILES:
            told = {alias.name for node in ast.walk(tree) if isinstance(node, ast.ImportFrom) for alias in node.names}
            used = {node.id for node in ast.walk(tree) if isinstance(node, ast.Name)}
            self.assertLessEqual(told, used, name)

    def test_no_circle(self):
        table = {name[:-3]: {node.module.split(".")[-1] for node in ast.walk(tree) if isinstance(node, ast.ImportFrom)
                             and node.module.startswith("allnear.")} for name, _, tree in FILES}
        while table:
            free = [name for name in table if not table[name] & set(table)]
            self.assertTrue(free, table)
            for name in free:
                del table[name]


class Names(unittest.TestCase):
    """L8, L12, L15, L17, L25, L28: names."""

    def test_builtins(self):
        known = set(dir(builtins))
        for name, _, tree in FILES:
            for node in ast.walk(tree):
                if isinstance(node, ast.Name) and isinstance(node.ctx, ast.Load) and node.id in known:
                    self.assertIn(node.id, BUILTINS, (name, node.lineno))

    def test_no_name_is_given_twice(self):
        known = set(dir(builtins))
        for name, _, tree in FILES:
            taken = {alias.name for node in tree.body if isinstance(node, ast.ImportFrom) for alias in node.names}
            taken |= {node.name for node in tree.body if isinstance(node, ast.ClassDef)}
            bound = set(bound_names(tree))
            top = [node.name for node in tree.body if isinstance(node, (ast.FunctionDef, ast.ClassDef))]
            self.assertEqual(bound & taken, set(), name)
            self.assertEqual((bound | set(top)) & known, set(), name)
            self.assertEqual(len(top), len(set(top)), name)
        for where, node in nodes(ast.FunctionDef, ast.ClassDef):
            self.assertFalse(node.name in WORDS or (node.name[:2] == "__" and node.name not in DUNDERS), where)

    def test_methods(self):
        own = {node.name for _, node in nodes(ast.FunctionDef)}
        for where, node in nodes(ast.Call):
            if isinstance(node.func, ast.Attribute):
                self.assertIn(node.func.attr, METHODS | own, where)

    def test_strings(self):
        docstrings = [node.value for _, node in nodes(ast.Expr)]
        for where, node in nodes(ast.Constant):
            if isinstance(node.value, str) and node not in docstrings:
                self.assertNotIn("%", node.value, where)
                self.assertNotIn(node.value, WORDS | {"type"}, where)


class Statements(unittest.TestCase):
    """L4 to L7, L19, L27: what stands in functions."""

    def test_statements(self):
        for where, node in nodes(ast.stmt):
            self.assertIsInstance(node, STATEMENTS, where)
        for where, node in nodes(ast.FunctionDef):
            for one in node.decorator_list:
                told = one.attr if isinstance(one, ast.Attribute) else one.id
                self.assertIn(told, ("property", "staticmethod", "classmethod", "setter"), where)
        for where, node in nodes(ast.ClassDef):
            self.assertEqual((node.decorator_list, node.keywords), ([], []), where)

    def test_numbers(self):
        for where, node in nodes(ast.Constant):
            self.assertNotIsInstance(node.value, (float, complex), where)
        for where, node in nodes(ast.BinOp):
            self.assertNotIsInstance(node.op, (ast.Div, ast.MatMult), where)

    def test_exponents(self):
        for where, node in nodes(ast.BinOp):
            if isinstance(node.op, ast.Pow):
                self.assertIsInstance(node.right, ast.Constant, where)
                self.assertIn(node.right.value, range(65), where)

    def test_is(self):
        for where, node in nodes(ast.Compare):
            if isinstance(node.ops[0], (ast.Is, ast.IsNot)):
                plain = isinstance(node.comparators[0], ast.Constant)
                self.assertTrue(plain or isinstance(node.left, ast.Call) and node.left.func.id == "type", where)

    def test_what_is_not_used(self):
        self.assertEqual(nodes(ast.Lambda, ast.Global, ast.Nonlocal, ast.Yield, ast.YieldFrom, ast.NamedExpr), [])

    def test_tables_are_only_read(self):
        for name, _, tree in FILES:
            tables = {one.targets[0].id for one in tree.body if isinstance(one, ast.Assign)
                      and isinstance(one.value, ast.Dict)}
            for node in ast.walk(tree):
                if isinstance(node, ast.Call):
                    self.assertFalse(isinstance(node.func, ast.Subscript), (name, node.lineno))
                    told = [one.id for one in node.args if isinstance(one, ast.Name)]
                    self.assertEqual(tables & set(told), set(), (name, node.lineno))

    def test_no_generator_beside_equality(self):
        for where, node in nodes(ast.Call):
            if isinstance(node.func, ast.Name) and node.func.id in ("any", "all", "min", "max", "sum", "sorted"):
                for one in node.args:
                    self.assertNotIsInstance(one, ast.GeneratorExp, where)

    def test_handlers(self):
        for where, node in nodes(ast.ExceptHandler):
            self.assertIsInstance(node.type, (ast.Name, ast.Tuple), where)


if __name__ == "__main__":
    unittest.main()
