"""Rules of LANGUAGE.md that can be read off the files of the package one by one."""
import ast
import builtins
import pathlib
import re
import sys
import unittest

PACKAGE = pathlib.Path(__file__).resolve().parent.parent / "moststream"
FILES = sorted(PACKAGE.rglob("*.py"))
LIBRARY = {
    "heapq": "heappush heappop heapify heapreplace heappushpop", "math": "gcd lcm isqrt comb perm factorial",
    "itertools": "product combinations permutations chain accumulate pairwise islice zip_longest",
    "collections": "defaultdict",
}
BUILTINS = """len range enumerate zip min max sum abs sorted reversed int str bool bytes list tuple dict set frozenset
    isinstance ord repr any all divmod pow getattr hasattr setattr iter next map Exception ValueError TypeError KeyError
    IndexError LookupError ZeroDivisionError ArithmeticError OverflowError RuntimeError NotImplementedError
    AttributeError StopIteration NotImplemented property staticmethod classmethod super""".split()
BARRED_NODES = (ast.Global, ast.AsyncFunctionDef, ast.AsyncFor, ast.AsyncWith, ast.Await, ast.Import, ast.TryStar,
                ast.Div)
BARRED_NAMES = """register mro elements open input law version_info with_traceback add_note attrgetter breakpoint
    builtins compile copyright credits delattr dir eval exec exit gc globals help id importlib license locals
    methodcaller os quit type vars hash print sys""".split()
BARRED_WORDS = re.compile(r"\b(type|typing|typing_extensions|enum|Enum|IntEnum|StrEnum|Flag|IntFlag|Generic|Protocol"
                          r"|ABC|ABCMeta|namedtuple|NamedTuple|TypedDict|TYPE_CHECKING|abstractmethod)\b"
                          r"|dataclass|overload|contextmanager")
METHODS = """append clear copy count endswith extend find get index insert isalnum isalpha isdigit islower isspace
    isupper items join keys ljust lower lstrip partition pop remove replace reverse rfind rjust rpartition rsplit rstrip
    setdefault split splitlines startswith strip update upper values zfill bit_length isascii isdecimal"""
DUNDERS = """init eq repr str len enter exit call iter lt le gt ge ne add sub mul floordiv mod pow and or xor lshift
    rshift neg pos invert abs bool contains getitem setitem""".split()


def trees():
    for path in FILES:
        yield path.name, ast.parse(path.read_text(encoding="utf-8"))


def bound_names(tree):
    """Every name that is bound in a file, but for attributes."""
    for node in ast.walk(tree):
        if isinstance(node, (ast.FunctionDef, ast.ClassDef)):
            yield node.name
        elif isinstance(node, ast.arg):
            yield node.arg
        elif isinstance(node, ast.Name) and isinstance(node.ctx, ast.Store):
            yield node.id
        elif isinstance(node, ast.ExceptHandler) and node.name:
            yield node.name


def docstrings(tree):
    holders = (ast.Module, ast.ClassDef, ast.FunctionDef)
    found = [node.body[0].value for node in ast.walk(tree)
             if isinstance(node, holders) and node.body and isinstance(node.body[0], ast.Expr)]
    return [node for node in found if isinstance(node, ast.Constant)]


class Files(unittest.TestCase):
    def test_l1_l14_just_plain_files(self):
        for path in PACKAGE.rglob("*"):
            if "__pycache__" not in path.parts:
                self.assertRegex(path.name, r"^(__init__|[a-z][a-z0-9_]*)(\.py)?$")
                self.assertNotIn(path.stem, sys.stdlib_module_names)
                self.assertNotIn(path.stem, dir(builtins))
        self.assertNotIn("moststream", sys.stdlib_module_names)
        self.assertLessEqual(len(FILES), 100)

    def test_l10_l14_sizes_and_characters(self):
        for path in FILES:
            lines = path.read_text(encoding="utf-8").split("\n")
            self.assertLessEqual(len(lines), 400, path.name)
            for number, line in enumerate(lines, 1):
                self.assertRegex(line, r"^[ -~]{0,120}$", f"{path.name}:{number}")

    def test_l10_functions(self):
        for name, tree in trees():
            for node in ast.walk(tree):
                if isinstance(node, ast.FunctionDef):
                    self.assertLessEqual(node.end_lineno - node.lineno + 1, 40, f"{name}:{node.name}")


class Names(unittest.TestCase):
    def test_l2_l16_imports(self):
        ahead = {}
        for name, tree in trees():
            inside = [node for node in ast.walk(tree) if isinstance(node, ast.ImportFrom)]
            self.assertEqual(inside, [node for node in tree.body if isinstance(node, ast.ImportFrom)], name)
            for node in inside:
                self.assertEqual(node.level, 0)
                names = [alias.name for alias in node.names]
                if node.module in LIBRARY:
                    self.assertLessEqual(set(names), set(LIBRARY[node.module].split()))
                    continue
                self.assertTrue(node.module.startswith("moststream."), f"{name}: {node.module}")
                path = PACKAGE / (node.module.split(".")[1] + ".py")
                defined = [item.name for item in ast.parse(path.read_text()).body
                           if isinstance(item, (ast.FunctionDef, ast.ClassDef))]
                self.assertLessEqual(set(names), set(defined))
                ahead.setdefault(name, set()).add(path.name)
        while ahead:
            free = [name for name in ahead if not ahead[name] & set(ahead)]
            self.assertTrue(free, "files import from each other")
            ahead = {name: rest for name, rest in ahead.items() if name not in free}

    def test_l12_l15_l17_bound_names(self):
        for name, tree in trees():
            imported = [alias.asname or alias.name for node in tree.body if isinstance(node, ast.ImportFrom)
                        for alias in node.names]
            classes = [node.name for node in tree.body if isinstance(node, ast.ClassDef)]
            self.assertEqual(len(imported), len(set(imported)))
            for bound in bound_names(tree):
                with self.subTest(name, bound=bound):
                    self.assertNotIn(bound, imported)
                    self.assertNotIn(bound, dir(builtins))
                    self.assertNotIn(bound, BARRED_NAMES)
                    self.assertRegex(bound, r"^(_?[A-Za-z][A-Za-z0-9_]*|_|__(" + "|".join(DUNDERS) + r")__)$")
                    self.assertNotRegex(bound, r"^(_wall|_pe_|_dcw_|_enum_|_cm_|_twin_re_|_lay_|_law_|_stub_|_sre)")
            self.assertEqual(sorted(name for name in bound_names(tree) if name in classes), sorted(classes))

    def test_l8_builtins(self):
        for name, tree in trees():
            for node in ast.walk(tree):
                if isinstance(node, ast.Name) and node.id in dir(builtins):
                    self.assertIn(node.id, BUILTINS, f"{name}:{node.lineno}")

    def test_l15_bound_once(self):
        for name, tree in trees():
            top = [node.name for node in tree.body if isinstance(node, (ast.FunctionDef, ast.ClassDef))]
            top += [node.targets[0].id for node in tree.body if isinstance(node, ast.Assign)]
            self.assertEqual(len(top), len(set(top)), name)


class Code(unittest.TestCase):
    def test_l3_module_level(self):
        plain = (ast.ImportFrom, ast.FunctionDef, ast.ClassDef, ast.Assign)
        for name, tree in trees():
            for node in tree.body:
                with self.subTest(name, line=node.lineno):
                    if not (isinstance(node, ast.Expr) and node.value in docstrings(tree)):
                        self.assertIsInstance(node, plain)
                    if isinstance(node, ast.Assign):
                        self.check_value(tree, node)

    def check_value(self, tree, node):
        """A literal, or a dict with functions that are defined above."""
        above = [item.name for item in tree.body if isinstance(item, ast.FunctionDef) and item.lineno < node.lineno]
        if isinstance(node.value, ast.Dict) and isinstance(node.value.values[0], ast.Name):
            self.assertLessEqual({value.id for value in node.value.values}, set(above))
            self.assertTrue(all(isinstance(ast.literal_eval(key), str) for key in node.value.keys))
        else:
            ast.literal_eval(node.value)

    def test_l6_l7_nodes(self):
        for name, tree in trees():
            for node in ast.walk(tree):
                with self.subTest(name, node=type(node).__name__):
                    self.assertNotIsInstance(node, BARRED_NODES)
                    if isinstance(node, ast.Constant):
                        self.assertNotIsInstance(node.value, (float, complex))
                    if isinstance(node, ast.Try):
                        self.assertTrue(all(handler.type for handler in node.handlers))

    def test_l7_no_generator_expression_where_a_class_compares(self):
        for name, tree in trees():
            for node in ast.walk(tree):
                if isinstance(node, ast.Call) and isinstance(node.func, ast.Name) and \
                        node.func.id in ("any", "all", "min", "max", "sum", "sorted"):
                    for argument in node.args:
                        self.assertNotIsInstance(argument, ast.GeneratorExp, f"{name}:{node.lineno}")

    def test_l17_l27_strings(self):
        for name, tree in trees():
            told = docstrings(tree)
            for node in ast.walk(tree):
                if isinstance(node, ast.Constant) and isinstance(node.value, str):
                    with self.subTest(name, line=node.lineno):
                        self.assertNotIn("%", node.value)
                        self.assertFalse(node.value.endswith(("._", ".__")))
                        if node not in told:
                            self.assertIsNone(BARRED_WORDS.search(node.value))

    def test_l25_methods_of_builtin_values(self):
        """Each method that is called is one of L25, or one that a class of the package has."""
        own = {item.name for _, tree in trees() for node in ast.walk(tree) if isinstance(node, ast.ClassDef)
               for item in node.body if isinstance(item, ast.FunctionDef)}
        for name, tree in trees():
            for node in ast.walk(tree):
                if isinstance(node, ast.Call) and isinstance(node.func, ast.Attribute):
                    self.assertIn(node.func.attr, own | set(METHODS.split()), f"{name}:{node.lineno}")
                    self.assertTrue(node.func.attr in own or not node.keywords, f"{name}:{node.lineno}")

    def test_l18_l26_names_of_methods_and_attributes(self):
        methods, attributes = set(), set()
        for _, tree in trees():
            for node in ast.walk(tree):
                if isinstance(node, ast.ClassDef):
                    names = [item.name for item in node.body if isinstance(item, ast.FunctionDef)]
                    self.assertEqual(len(names), len(set(names)), node.name)
                    methods |= set(names)
                if isinstance(node, ast.Attribute) and isinstance(node.ctx, ast.Store):
                    attributes.add(node.attr)
        self.assertEqual(methods & attributes, set())
        builtin = {name for kind in (str, int, list, dict, set, bytes) for name in dir(kind)}
        self.assertLessEqual((methods | attributes) & builtin, {"copy", "index", "__init__", "__eq__"})

    def test_l18_attributes_that_are_read_are_assigned(self):
        stored, called, loaded = set(), set(), set()
        for _, tree in trees():
            for node in ast.walk(tree):
                if isinstance(node, ast.Call) and isinstance(node.func, ast.Attribute):
                    called.add(node.func)
                elif isinstance(node, ast.Attribute):
                    (stored if isinstance(node.ctx, ast.Store) else loaded).add(node)
        self.assertLessEqual({node.attr for node in loaded - called}, {node.attr for node in stored})

    def test_l19_what_is_caught_and_raised(self):
        for name, tree in trees():
            for node in ast.walk(tree):
                if isinstance(node, ast.ExceptHandler):
                    self.assertNotIn(node.type.id, dir(builtins), f"{name}:{node.lineno}")
                if isinstance(node, ast.Raise):
                    self.assertIsInstance(node.exc, ast.Call, f"{name}:{node.lineno}")

    def test_l23_kept_iterators(self):
        """None of these is kept in a variable, returned or passed on."""
        for name, tree in trees():
            for node in ast.walk(tree):
                value = node.value if isinstance(node, (ast.Assign, ast.Return)) else None
                if isinstance(value, ast.Call) and isinstance(value.func, ast.Name):
                    self.assertNotIn(value.func.id, ("zip", "range", "enumerate", "reversed", "map", "iter"),
                                     f"{name}:{node.lineno}")

    def test_l25_no_sort_in_place(self):
        for name, tree in trees():
            for node in ast.walk(tree):
                if isinstance(node, ast.Attribute):
                    self.assertNotEqual(node.attr, "sort", f"{name}:{node.lineno}")

    def test_l20_is(self):
        for name, tree in trees():
            for node in ast.walk(tree):
                if isinstance(node, ast.Compare) and isinstance(node.ops[0], (ast.Is, ast.IsNot)):
                    self.assertIsInstance(node.comparators[0], ast.Constant, f"{name}:{node.lineno}")

    def test_l27_exponents(self):
        for name, tree in trees():
            for node in ast.walk(tree):
                if isinstance(node, ast.BinOp) and isinstance(node.op, ast.Pow):
                    self.assertIsInstance(node.right, ast.Constant, f"{name}:{node.lineno}")


if __name__ == "__main__":
    unittest.main()
