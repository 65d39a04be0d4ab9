"""LANGUAGE.md: what of its rules can be told from the text of the package's files."""

import ast
import builtins
import pathlib
import re
import unittest

PACKAGE = pathlib.Path(__file__).resolve().parent.parent / "hookmats"
FILES = sorted(path for path in PACKAGE.rglob("*") if path.is_file() and "__pycache__" not in path.parts)
LIBRARY = {
    "heapq": "heappush heappop heapify heapreplace heappushpop",
    "math": "gcd lcm isqrt comb perm factorial",
    "itertools": "product combinations permutations chain accumulate pairwise islice zip_longest",
    "collections": "defaultdict",
}
BUILTINS = set((
    "len range enumerate zip min max sum abs sorted reversed int str bool bytes list tuple dict set frozenset "
    "isinstance ord repr any all divmod pow getattr hasattr setattr iter next map super property staticmethod "
    "classmethod Exception ValueError TypeError KeyError IndexError LookupError ZeroDivisionError ArithmeticError "
    "OverflowError RuntimeError NotImplementedError AttributeError StopIteration NotImplemented"
).split())
METHODS = set((
    "__init__ __eq__ __repr__ __str__ __len__ __enter__ __exit__ __call__ __iter__"
).split())
TAKEN = set(dir(builtins)) - {"_"}
BARRED_NAMES = set((
    "register mro elements open input law version_info with_traceback add_note eval exec compile globals locals "
    "vars dir id type exit quit help os gc builtins importlib"
).split())
BARRED_WORDS = re.compile(
    r"\b(typing|typing_extensions|enum|Enum|IntEnum|StrEnum|Flag|IntFlag|Generic|Protocol|ABC|ABCMeta|namedtuple|"
    r"NamedTuple|TypedDict|TYPE_CHECKING|abstractmethod)\b|dataclass|overload|contextmanager|_wall|_WallAttr")
BARRED_NODES = (
    ast.Global, ast.AsyncFunctionDef, ast.AsyncFor, ast.AsyncWith, ast.Await, ast.Import, ast.Div, ast.MatMult,
    ast.TryStar, ast.Set, ast.SetComp, ast.Pow, ast.Lambda, ast.GeneratorExp, ast.Yield, ast.YieldFrom, ast.NamedExpr,
)
# L25: the methods of builtin values.
VALUE_METHODS = set((
    "append clear copy count endswith extend find get index insert isalnum isalpha isdigit islower isspace isupper "
    "items join keys ljust lower lstrip partition pop remove replace reverse rfind rjust rpartition rsplit rstrip "
    "setdefault split splitlines startswith strip update upper values zfill bit_length"
).split())
# L23: what is iterated at once, and what may stand around it.
AT_ONCE = set("zip enumerate reversed range items keys values".split())
AROUND = set("list tuple dict sorted sum any all enumerate zip min max".split())


def tree_of(path):
    return ast.parse(path.read_text(encoding="ascii"))


def place_of(node):
    return (node.lineno, node.col_offset, node.end_lineno, node.end_col_offset)


def called(node):
    """The name of a function or a method that is called."""
    return node.func.attr if isinstance(node.func, ast.Attribute) else getattr(node.func, "id", "")


def bound_names(tree):
    for node in ast.walk(tree):
        if isinstance(node, (ast.FunctionDef, ast.ClassDef)):
            yield node.name
        elif isinstance(node, ast.Name) and not isinstance(node.ctx, ast.Load):
            yield node.id
        elif isinstance(node, ast.arg):
            yield node.arg
        elif isinstance(node, ast.ExceptHandler) and node.name:
            yield node.name


def top_names(tree):
    names = []
    for node in tree.body:
        if isinstance(node, (ast.FunctionDef, ast.ClassDef)):
            names.append(node.name)
        elif isinstance(node, ast.Assign):
            names.extend(target.id for target in node.targets)
        elif isinstance(node, ast.ImportFrom):
            names.extend(alias.name for alias in node.names)
    return names


class TestLanguage(unittest.TestCase):

    def test_files(self):
        self.assertIn(PACKAGE / "__init__.py", FILES)
        self.assertLessEqual(len(FILES), 100)
        for path in FILES:
            self.assertRegex(path.name, r"^[a-z0-9_]+\.py$")
            text = path.read_bytes()
            self.assertTrue(all(sign == 10 or 32 <= sign <= 126 for sign in text), path)
            lines = text.decode().split("\n")
            self.assertLessEqual(len(lines), 400, path)
            self.assertLessEqual(max(map(len, lines)), 120, path)

    def test_functions_have_at_most_40_lines(self):
        for path in FILES:
            for node in ast.walk(tree_of(path)):
                if isinstance(node, ast.FunctionDef):
                    self.assertLessEqual(node.end_lineno - node.lineno + 1, 40, (path.name, node.name))

    def test_module_level(self):
        for path in FILES:
            tree = tree_of(path)
            for at, node in enumerate(tree.body):
                if isinstance(node, ast.Expr):
                    self.assertTrue(at == 0 and isinstance(node.value, ast.Constant), (path.name, node.lineno))
                else:
                    self.assertIsInstance(
                        node, (ast.ImportFrom, ast.FunctionDef, ast.ClassDef, ast.Assign), path.name)
            names = top_names(tree)
            self.assertEqual(len(names), len(set(names)), path.name)

    def test_imports(self):
        seen = {}
        for path in FILES:
            seen[path.stem] = []
            for node in ast.walk(tree_of(path)):
                if not isinstance(node, ast.ImportFrom):
                    continue
                self.assertEqual(node.level, 0)
                self.assertTrue(all(alias.asname is None for alias in node.names), path.name)
                names = {alias.name for alias in node.names}
                if node.module in LIBRARY:
                    self.assertLessEqual(names, set(LIBRARY[node.module].split()))
                    continue
                top, _, file = node.module.partition(".")
                self.assertEqual(top, "hookmats")
                home = [one for one in tree_of(PACKAGE / (file + ".py")).body if not isinstance(one, ast.ImportFrom)]
                self.assertLessEqual(names, set(top_names(ast.Module(home, []))), (path.name, file))
                seen[path.stem].append(file)
        while seen:
            free = [file for file, wanted in seen.items() if not set(wanted) & set(seen)]
            self.assertTrue(free, "files import from each other: %s" % sorted(seen))
            seen = {file: wanted for file, wanted in seen.items() if file not in free}

    def test_names(self):
        for path in FILES:
            tree = tree_of(path)
            for name in bound_names(tree):
                self.assertNotIn(name, TAKEN, (path.name, name))
                self.assertNotIn(name, BARRED_NAMES, (path.name, name))
                self.assertTrue(name in METHODS or not name.startswith("__"), (path.name, name))
            for node in ast.walk(tree):
                if isinstance(node, ast.Name) and node.id in TAKEN:
                    self.assertIn(node.id, BUILTINS, (path.name, node.lineno))
                if isinstance(node, ast.Attribute):
                    self.assertNotIn(node.attr, BARRED_NAMES, (path.name, node.lineno))
            imported = {alias.name for node in tree.body if isinstance(node, ast.ImportFrom) for alias in node.names}
            self.assertFalse(imported & set(bound_names(tree)), path.name)

    def test_nodes_and_values(self):
        for path in FILES:
            for node in ast.walk(tree_of(path)):
                where = (path.name, getattr(node, "lineno", 0))
                self.assertNotIsInstance(node, BARRED_NODES, where)
                if isinstance(node, (ast.FunctionDef, ast.ClassDef)):
                    self.assertEqual(node.decorator_list, [], where)
                if isinstance(node, ast.Constant):
                    self.assertNotIsInstance(node.value, (float, complex, bytes), where)
                    self.assertNotIn("%", node.value if isinstance(node.value, str) else "", where)
            self.assertIsNone(BARRED_WORDS.search(path.read_text()), path.name)

    def test_methods(self):
        for path in FILES:
            for node in ast.walk(tree_of(path)):
                if isinstance(node, ast.Call) and isinstance(node.func, ast.Attribute):
                    self.assertIn(node.func.attr, VALUE_METHODS, (path.name, node.lineno))
                    self.assertEqual(node.keywords, [], (path.name, node.lineno))

    def test_iterated_at_once(self):
        for path in FILES:
            allowed = set()
            for node in ast.walk(tree_of(path)):
                if isinstance(node, (ast.For, ast.comprehension)):
                    allowed.add(place_of(node.iter))
                if isinstance(node, ast.Call) and called(node) in AROUND | {"reversed"}:
                    inside = [one for one in node.args if isinstance(one, ast.Call)]
                    allowed |= {place_of(one) for one in inside if called(node) in AROUND or called(one) == "range"}
            for node in ast.walk(tree_of(path)):
                if isinstance(node, ast.Call) and called(node) in AT_ONCE:
                    self.assertIn(place_of(node), allowed, path.name)

    def test_tables_at_module_level_hold_plain_values(self):
        for path in FILES:
            for node in tree_of(path).body:
                if isinstance(node, ast.Assign):
                    self.assertEqual(len(node.targets), 1)
                    self.assertIsInstance(node.targets[0], ast.Name)
                    ast.literal_eval(node.value)


if __name__ == "__main__":
    unittest.main()
