"""LANGUAGE.md: what of its rules can be told from the text of the package's files."""

import ast
import builtins
import pathlib
import re
import unittest

PACKAGE = pathlib.Path(__file__).resolve().parent.parent / "hookmats"
FILES = sorted(path for path in PACKAGE.rglob("*") if path.is_file() and "__pycache__" not in path.parts)
LIBRARY = {
    "heapq": "heappush heappop heapify heapreplace heappushpop",
    "math": "gcd lcm isqrt comb perm factorial",
    "itertools": "product combinations permutations chain accumulate pairwise islice zip_longest",
    "collections": "defaultdict",
}
BUILTINS = set((
    "len range enumerate zip min max sum abs sorted reversed int str bool bytes list tuple dict set frozenset "
    "isinstance ord repr any all divmod pow getattr hasattr setattr iter next map super property staticmethod "
    "classmethod Exception ValueError TypeError KeyError IndexError LookupError ZeroDivisionError ArithmeticError "
    "OverflowError RuntimeError NotImplementedError AttributeError StopIteration NotImplemented"
).split())
METHODS = set((
    "__init__ __eq__ __repr__ __str__ __len__ __enter__ __exit__ __call__ __iter__ "
    "__lt__ __le__ __gt__ __ge__ __ne__ __neg__ __pos__ __invert__ __abs__ __bool__ __contains__ __getitem__ "
    "__setitem__"
).split()) | {
    "__%s%s__" % (way, name) for way in ("", "r", "i")
    for name in "add sub mul floordiv mod pow and or xor lshift rshift".split() if way + name != "rpow"}
TAKEN = set(dir(builtins)) - {"_"}
BARRED_ATTRIBUTES = set("register mro elements open input law version_info with_traceback add_note".split())
BARRED_NAMES = BARRED_ATTRIBUTES | set((
    "eval exec compile globals locals vars dir id type exit quit help os gc builtins importlib"
).split())
BARRED_WORDS = re.compile(
    r"\b(typing|typing_extensions|enum|Enum|IntEnum|StrEnum|Flag|IntFlag|Generic|Protocol|ABC|ABCMeta|namedtuple|"
    r"NamedTuple|TypedDict|TYPE_CHECKING|abstractmethod)\b|dataclass|overload|contextmanager|_wall|_WallAttr")
BARRED_NODES = (
    ast.Global, ast.AsyncFunctionDef, ast.AsyncFor, ast.AsyncWith, ast.Await, ast.Import, ast.Div, ast.MatMult,
    ast.TryStar,
)
# L25: the methods of builtin values.
VALUE_METHODS = set((
    "append clear copy count endswith extend find get index insert isalnum isalpha isdigit islower isspace isupper "
    "items join keys ljust lower lstrip partition pop remove replace reverse rfind rjust rpartition rsplit rstrip "
    "setdefault split splitlines startswith strip update upper values zfill bit_length title capitalize swapcase "
    "casefold center expandtabs removeprefix removesuffix rindex isascii isdecimal isnumeric istitle isidentifier "
    "isprintable encode decode hex translate maketrans format sort add discard from_iterable"
).split())
# L23: what is iterated at once, and what may stand around it.
AT_ONCE = set("zip enumerate reversed range items keys values".split())
AROUND = set("list tuple dict sorted sum any all enumerate zip min max len reversed join iter map bytes".split())
AROUND |= set(LIBRARY["itertools"].split()) | {"from_iterable"}


def tree_of(path):
    return ast.parse(path.read_text(encoding="ascii"))


def place_of(node):
    return (node.lineno, node.col_offset, node.end_lineno, node.end_col_offset)


def called(node):
    """The name of a function or a method that is called."""
    return node.func.attr if isinstance(node.func, ast.Attribute) else getattr(node.func, "id", "")


def all_nodes():
    """Each node of each file, with where it stands."""
    for path in FILES:
        for node in ast.walk(tree_of(path)):
            yield node, (path.name, getattr(node, "lineno", 0))


def own_methods():
    """Each method that a class of the package defines."""
    return [one for node, _ in all_nodes() if isinstance(node, ast.ClassDef)
            for one in node.body if isinstance(one, ast.FunctionDef)]


def parents(tree):
    return {place_of(below): node for node in ast.walk(tree) for below in ast.iter_child_nodes(node)
            if hasattr(below, "lineno")}


def bound_names(tree):
    for node in ast.walk(tree):
        if isinstance(node, (ast.FunctionDef, ast.ClassDef)):
            yield node.name
        elif isinstance(node, ast.Name) and not isinstance(node.ctx, ast.Load):
            yield node.id
        elif isinstance(node, ast.arg):
            yield node.arg
        elif isinstance(node, ast.ExceptHandler) and node.name:
            yield node.name


def top_names(tree):
    names = []
    for node in tree.body:
        if isinstance(node, (ast.FunctionDef, ast.ClassDef)):
            names.append(node.name)
        elif isinstance(node, ast.Assign):
            names.extend(target.id for target in node.targets)
        elif isinstance(node, ast.AnnAssign):
            names.append(node.target.id)
        elif isinstance(node, ast.ImportFrom):
            names.extend(alias.name for alias in node.names)
    return names


class TestLanguage(unittest.TestCase):

    def test_files(self):
        self.assertIn(PACKAGE / "__init__.py", FILES)
        self.assertLessEqual(len(FILES), 100)
        for path in FILES:
            self.assertRegex(path.name, r"^[a-z0-9_]+\.py$")
            text = path.read_bytes()
            self.assertTrue(all(sign == 10 or 32 <= sign <= 126 for sign in text), path)
            lines = text.decode().split("\n")
            self.assertLessEqual(len(lines), 400, path)
            self.assertLessEqual(max(map(len, lines)), 120, path)

    def test_functions_have_at_most_40_lines(self):
        for path in FILES:
            for node in ast.walk(tree_of(path)):
                if isinstance(node, ast.FunctionDef):
                    self.assertLessEqual(node.end_lineno - node.lineno + 1, 40, (path.name, node.name))

    def test_module_level(self):
        for path in FILES:
            tree = tree_of(path)
            for at, node in enumerate(tree.body):
                if isinstance(node, ast.Expr):
                    self.assertTrue(at == 0 and isinstance(node.value, ast.Constant), (path.name, node.lineno))
                else:
                    self.assertIsInstance(
                        node, (ast.ImportFrom, ast.FunctionDef, ast.ClassDef, ast.Assign, ast.AnnAssign), path.name)
            names = top_names(tree)
            self.assertEqual(len(names), len(set(names)), path.name)

    def test_imports(self):
        seen = {}
        for path in FILES:
            seen[path.stem] = []
            for node in ast.walk(tree_of(path)):
                if not isinstance(node, ast.ImportFrom) or node.module == "__future__":
                    continue
                self.assertEqual(node.level, 0)
                self.assertTrue(all(alias.asname is None for alias in node.names), path.name)
                names = {alias.name for alias in node.names}
                if node.module in LIBRARY:
                    self.assertLessEqual(names, set(LIBRARY[node.module].split()))
                    continue
                top, _, file = node.module.partition(".")
                self.assertEqual(top, "hookmats")
                home = [one for one in tree_of(PACKAGE / (file + ".py")).body if not isinstance(one, ast.ImportFrom)]
                self.assertLessEqual(names, set(top_names(ast.Module(home, []))), (path.name, file))
                seen[path.stem].append(file)
        while seen:
            free = [file for file, wanted in seen.items() if not set(wanted) & set(seen)]
            self.assertTrue(free, "files import from each other: %s" % sorted(seen))
            seen = {file: wanted for file, wanted in seen.items() if file not in free}

    def test_names(self):
        for path in FILES:
            tree = tree_of(path)
            for name in bound_names(tree):
                self.assertNotIn(name, TAKEN, (path.name, name))
                self.assertNotIn(name, BARRED_NAMES, (path.name, name))
                self.assertTrue(name in METHODS or not name.startswith("__"), (path.name, name))
            for node in ast.walk(tree):
                if isinstance(node, ast.Name) and node.id in TAKEN:
                    self.assertIn(node.id, BUILTINS, (path.name, node.lineno))
                if isinstance(node, ast.Attribute):
                    self.assertNotIn(node.attr, BARRED_ATTRIBUTES, (path.name, node.lineno))
            imported = {alias.name for node in tree.body if isinstance(node, ast.ImportFrom) for alias in node.names}
            self.assertFalse(imported & set(bound_names(tree)), path.name)

    def test_nodes_and_values(self):
        for path in FILES:
            for node in ast.walk(tree_of(path)):
                where = (path.name, getattr(node, "lineno", 0))
                self.assertNotIsInstance(node, BARRED_NODES, where)
                if isinstance(node, ast.BinOp) and isinstance(node.op, ast.Pow):
                    self.assertIsInstance(node.right, (ast.Constant, ast.Name, ast.BinOp), where)
                if isinstance(node, ast.Constant):
                    self.assertNotIsInstance(node.value, (float, complex), where)
                    self.assertNotIn("%", node.value if isinstance(node.value, str) else "", where)
            self.assertIsNone(BARRED_WORDS.search(path.read_text()), path.name)

    def test_methods(self):
        own = {method.name for method in own_methods()}
        for node, where in all_nodes():
            if isinstance(node, ast.Call) and isinstance(node.func, ast.Attribute):
                self.assertIn(node.func.attr, VALUE_METHODS | own, where)

    def test_decorators(self):
        methods = own_methods()
        over = {place_of(method) for method in methods}
        for node, where in all_nodes():
            if isinstance(node, (ast.FunctionDef, ast.ClassDef)) and node.decorator_list:
                self.assertIn(place_of(node), over, where)
        for method in methods:
            told = [ast.unparse(one) for one in method.decorator_list]
            self.assertIn(told, ([], ["property"], [method.name + ".setter"], ["staticmethod"], ["classmethod"]))
            if "property" in told:
                self.assertNotIn(method.name, VALUE_METHODS)

    def test_no_name_is_a_method_and_an_attribute(self):
        for node, where in all_nodes():
            if isinstance(node, ast.ClassDef):
                methods = {one.name for one in node.body if isinstance(one, ast.FunctionDef)}
                told = {one.attr for one in ast.walk(node) if isinstance(one, ast.Attribute)
                        and isinstance(one.ctx, ast.Store) and ast.unparse(one.value) == "self"}
                setters = {one.name for one in node.body if getattr(one, "decorator_list", [])}
                self.assertFalse((methods - setters) & told, where)

    def test_lengths(self):
        for method in own_methods():
            if method.name == "__len__":
                for node in ast.walk(method):
                    if isinstance(node, ast.Return):
                        told = isinstance(node.value, ast.Constant) or called(node.value) == "len"
                        self.assertTrue(told, ast.unparse(node))

    def test_errors_are_made_where_they_are_raised(self):
        for node, where in all_nodes():
            if isinstance(node, ast.Raise) and node.exc is not None:
                self.assertIsInstance(node.exc, ast.Call, where)
                self.assertIsInstance(node.exc.func, ast.Name, where)
            if isinstance(node, ast.ExceptHandler):
                self.assertIsInstance(node.type, (ast.Name, ast.Tuple), where)
                self.assertNotIn(ast.unparse(node.type), ("Exception", "TypeError", "RuntimeError", "OverflowError"))

    def test_iterated_at_once(self):
        for path in FILES:
            tree = tree_of(path)
            above = parents(tree)
            for node in ast.walk(tree):
                if isinstance(node, ast.Call) and called(node) in AT_ONCE:
                    around = above[place_of(node)]
                    if isinstance(around, ast.Call):
                        self.assertIn(called(around), AROUND, (path.name, node.lineno))
                    else:
                        self.assertIsInstance(
                            around, (ast.For, ast.comprehension, ast.Compare, ast.Assign, ast.YieldFrom), path.name)

    def test_tables_at_module_level_hold_plain_values(self):
        for path in FILES:
            for node in tree_of(path).body:
                if isinstance(node, ast.Assign):
                    self.assertEqual(len(node.targets), 1)
                    self.assertIsInstance(node.targets[0], ast.Name)
                    for inner in ast.walk(node.value):
                        self.assertNotIsInstance(inner, (ast.Call, ast.Lambda, ast.ListComp, ast.DictComp), path.name)


if __name__ == "__main__":
    unittest.main()
