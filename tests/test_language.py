"""The rules of ../shared/LANGUAGE.md that can be seen without running the package, as far as it uses them."""
import ast
import builtins
import pathlib
import re
import unittest

ROOT = pathlib.Path(__file__).resolve().parent.parent
PACKAGE = ROOT / "whichwalks"

# Not "_", which doctest binds there.
PYTHONS = set(vars(builtins)) - {"_"}
BUILTINS = set(
    "len range enumerate zip min max sum abs sorted reversed int str bool bytes list tuple dict set frozenset"
    " isinstance ord repr any all divmod map iter next property staticmethod classmethod super NotImplemented"
    " Exception ValueError TypeError KeyError IndexError LookupError ZeroDivisionError ArithmeticError OverflowError"
    " RuntimeError NotImplementedError AttributeError StopIteration".split()
)
METHODS = set(
    "init eq repr str len enter exit call iter lt le gt ge ne add sub mul floordiv mod pow and or xor lshift rshift"
    " radd rsub rmul rand ror iadd isub imul iand ior neg pos invert abs bool contains getitem setitem".split()
)
LIBRARY = {
    "heapq": "heappush heappop heapify heapreplace heappushpop".split(),
    "math": "gcd lcm isqrt comb perm factorial".split(),
    "itertools": "product combinations permutations".split(),
}
BARRED_NODES = (
    ast.Global, ast.AsyncFunctionDef, ast.AsyncFor, ast.AsyncWith, ast.Await, ast.Import, ast.Div, ast.MatMult,
)
BARRED_WORDS = re.compile(
    r"\b(typing|typing_extensions|enum|Enum|IntEnum|StrEnum|Flag|IntFlag|Generic|Protocol|ABC|ABCMeta|namedtuple"
    r"|NamedTuple|TypedDict|TYPE_CHECKING|abstractmethod|_wall|_WallAttr)\b"
    r"|dataclass|overload|contextmanager|\(type\)|\bMeta\b|metaclass="
)
BARRED_NAMES = set("register mro elements open input law version_info with_traceback add_note".split())
BUILTIN_METHODS = set(
    "append clear copy count endswith extend find get index insert isalnum isalpha isdigit islower isspace isupper"
    " items join keys ljust lower lstrip partition pop remove replace reverse rfind rjust rpartition rsplit rstrip"
    " setdefault split splitlines startswith strip update upper values zfill bit_length title capitalize swapcase"
    " casefold center expandtabs removeprefix removesuffix rindex isascii isdecimal isnumeric istitle isidentifier"
    " isprintable translate add discard".split()
)

CHANGING = set("append clear extend insert pop remove reverse setdefault update sort add discard".split())


def found():
    """All that stands in the package, but for the byte code that Python itself may write there."""
    return [path for path in sorted(PACKAGE.rglob("*")) if "__pycache__" not in path.parts]


def sources():
    return {path: path.read_text(encoding="utf-8") for path in found() if path.suffix == ".py"}


def trees():
    return {path: ast.parse(text) for path, text in sources().items()}


def bound_names(node):
    """The names that a node of a tree binds or uses."""
    if isinstance(node, ast.Name):
        return [node.id]
    if isinstance(node, (ast.FunctionDef, ast.ClassDef)):
        return [node.name]
    if isinstance(node, ast.arg):
        return [node.arg]
    if isinstance(node, ast.Attribute):
        return [node.attr]
    return []


def runs_at_once(name, function):
    """Whether the function is an operator or a property, so that it runs without a call that is seen."""
    if name.startswith("__") and name.strip("_") not in ("init", "enter", "exit", "call", "iter", "setitem"):
        return True
    return any(isinstance(one, ast.Name) and one.id == "property" for one in function.decorator_list)


def called_names(function):
    calls = [node.func for node in ast.walk(function) if isinstance(node, ast.Call)]
    return {func.id if isinstance(func, ast.Name) else getattr(func, "attr", "") for func in calls}


def own_values(function):
    """The local names to which the function assigns nothing but lists and dicts that it creates itself."""
    own, other = set(), set()
    for node in ast.walk(function):
        targets = node.targets if isinstance(node, ast.Assign) else []
        for target in targets:
            stored = [one for one in ast.walk(target) if isinstance(one, ast.Name)]
            for name in [one for one in stored if isinstance(one.ctx, ast.Store)]:
                (own if isinstance(target, ast.Name) and does_create(node.value) else other).add(name.id)
        if isinstance(node, (ast.For, ast.comprehension)):
            other |= {one.id for one in ast.walk(node.target) if isinstance(one, ast.Name)}
    return own - other - {argument.arg for argument in function.args.args}


def does_create(value):
    if isinstance(value, ast.Call) and isinstance(value.func, ast.Name):
        return value.func.id in ("list", "dict", "sorted")
    return isinstance(value, (ast.List, ast.Dict, ast.ListComp))


def changes_of(function):
    """The lines in which the function changes what an operator must not change."""
    own, lines = own_values(function), []

    def is_own(node):
        return isinstance(node, ast.Name) and node.id in own

    for node in ast.walk(function):
        if isinstance(node, ast.Attribute) and isinstance(node.ctx, (ast.Store, ast.Del)):
            if function.name != "__init__" or not isinstance(node.value, ast.Name) or node.value.id != "self":
                lines.append(node.lineno)
        if isinstance(node, ast.Subscript) and isinstance(node.ctx, (ast.Store, ast.Del)) and not is_own(node.value):
            lines.append(node.lineno)
        if isinstance(node, ast.AugAssign):
            is_number = isinstance(node.value, ast.Constant) and isinstance(node.value.value, int)
            if not is_number or not isinstance(node.op, ast.Add) or not isinstance(node.target, ast.Name):
                lines.append(node.lineno)
        if isinstance(node, ast.Call) and isinstance(node.func, ast.Attribute):
            is_right = is_own(node.func.value) and node.func.attr not in ("sort", "add", "discard")
            if node.func.attr in CHANGING and not is_right:
                lines.append(node.lineno)
    return lines


class Language(unittest.TestCase):

    def test_files(self):
        files = [path for path in found() if path.is_file()]
        self.assertEqual([path for path in files if not re.fullmatch(r"[a-z_0-9]+\.py", path.name)], [])
        self.assertLessEqual(len(files), 100)
        for folder in [PACKAGE] + [path for path in found() if path.is_dir()]:
            self.assertTrue((folder / "__init__.py").is_file(), folder)
            self.assertFalse(folder.with_suffix(".py").exists(), folder)

    def test_signs_and_sizes(self):
        for path, text in sources().items():
            self.assertTrue(all(sign == "\n" or " " <= sign <= "~" for sign in text), path)
            self.assertLessEqual(len(text.split("\n")), 400, path)
            self.assertEqual([line for line in text.split("\n") if len(line) > 120], [], path)
            self.assertIsNone(BARRED_WORDS.search(text), path)

    def test_functions_have_at_most_forty_lines(self):
        for path, tree in trees().items():
            for node in ast.walk(tree):
                if isinstance(node, ast.FunctionDef):
                    self.assertLessEqual(node.end_lineno - node.lineno + 1, 40, (path, node.name))

    def test_imports(self):
        for path, tree in trees().items():
            for node in tree.body:
                if not isinstance(node, ast.ImportFrom):
                    continue
                names = [alias.name for alias in node.names]
                self.assertEqual(node.level, 0, path)
                self.assertEqual([alias.asname for alias in node.names], [None] * len(names), path)
                if node.module in LIBRARY:
                    self.assertLessEqual(set(names), set(LIBRARY[node.module]), path)
                    continue
                self.assertEqual(node.module.partition(".")[0], "whichwalks", path)
                named = ROOT.joinpath(*node.module.split(".")).with_suffix(".py")
                defined = [name for child in ast.parse(named.read_text()).body for name in self.top_names(child)]
                self.assertLessEqual(set(names), set(defined), path)

    def top_names(self, node):
        if isinstance(node, ast.Assign):
            return [target.id for target in node.targets]
        return bound_names(node)

    def test_modules_hold_definitions_and_plain_values(self):
        for path, tree in trees().items():
            names = []
            for at, node in enumerate(tree.body):
                if isinstance(node, ast.ImportFrom):
                    names += [alias.name for alias in node.names]
                elif not (at == 0 and isinstance(node, ast.Expr) and isinstance(node.value, ast.Constant)):
                    self.assertIsInstance(node, (ast.FunctionDef, ast.ClassDef, ast.Assign), path)
                    names += self.top_names(node)
            self.assertEqual(len(names), len(set(names)), path)

    def test_nothing_outside_the_language(self):
        for path, tree in trees().items():
            for node in ast.walk(tree):
                where = (path, getattr(node, "lineno", 0))
                self.assertNotIsInstance(node, BARRED_NODES, where)
                if isinstance(node, ast.Constant):
                    self.assertNotIsInstance(node.value, (float, complex), where)
                for name in bound_names(node):
                    self.assertNotIn(name, BARRED_NAMES, where)
                    if name.startswith("__"):
                        self.assertIn(name.strip("_"), METHODS, where)

    def test_no_local_name_is_that_of_an_import_or_a_class(self):
        for path, tree in trees().items():
            taken = {node.name for node in tree.body if isinstance(node, ast.ClassDef)}
            for node in tree.body:
                taken |= {alias.name for alias in node.names} if isinstance(node, ast.ImportFrom) else set()
            read = {node.id for node in ast.walk(tree) if isinstance(node, ast.Name)}
            self.assertEqual({name for name in taken if name not in read} - self.kept_names(tree), set(), path)
            for node in ast.walk(tree):
                where = (path, getattr(node, "lineno", 0))
                if isinstance(node, ast.Name) and isinstance(node.ctx, ast.Store):
                    self.assertNotIn(node.id, taken, where)
                if isinstance(node, ast.arg):
                    self.assertNotIn(node.arg, taken, where)
                if isinstance(node, ast.ExceptHandler):
                    self.assertNotIn(node.name, taken, where)

    def kept_names(self, tree):
        """The classes of a file, which other files may import."""
        return {node.name for node in tree.body if isinstance(node, ast.ClassDef)}

    def test_blocks_end_by_assignments_only(self):
        found = 0
        for path, tree in trees().items():
            for node in ast.walk(tree):
                if isinstance(node, ast.FunctionDef) and node.name == "__exit__":
                    found += 1
                    for row in node.body:
                        self.assertIsInstance(row, ast.Assign, path)
                        self.assertTrue(all(isinstance(one, ast.Attribute) for one in row.targets), path)
                        self.assertIsInstance(row.value, (ast.Attribute, ast.Name), path)
                if isinstance(node, ast.FunctionDef) and node.name == "__iter__":
                    self.assertEqual(len(node.body), 1, path)
                if isinstance(node, ast.Try):
                    self.assertEqual(node.finalbody, [], path)
                    for handler in node.handlers:
                        self.assertNotIn(handler.type.id, BUILTINS, path)
        self.assertEqual(found, 1)

    def test_errors_that_handlers_name(self):
        for path, tree in trees().items():
            for node in ast.walk(tree):
                if isinstance(node, ast.FunctionDef):
                    names = [one.name for one in ast.walk(node) if isinstance(one, ast.ExceptHandler) and one.name]
                    stored = [one.id for one in ast.walk(node) if isinstance(one, ast.Name)
                              and isinstance(one.ctx, ast.Store)]
                    self.assertEqual(len(names), len(set(names)), path)
                    self.assertFalse(set(names) & set(stored), path)

    def test_builtins(self):
        for path, tree in trees().items():
            for node in ast.walk(tree):
                where = (path, getattr(node, "lineno", 0))
                if isinstance(node, ast.Name) and node.id in PYTHONS:
                    self.assertIn(node.id, BUILTINS, where)
                    self.assertIsInstance(node.ctx, ast.Load, where)
                if isinstance(node, ast.arg):
                    self.assertNotIn(node.arg, PYTHONS, where)

    def test_methods_that_are_called(self):
        own = set(name for tree in trees().values() for node in ast.walk(tree)
                  if isinstance(node, ast.FunctionDef) for name in [node.name])
        for path, tree in trees().items():
            for node in ast.walk(tree):
                if isinstance(node, ast.Call) and isinstance(node.func, ast.Attribute):
                    self.assertIn(node.func.attr, BUILTIN_METHODS | own, (path, node.lineno))

    def test_any_and_all_take_lists(self):
        # A class has an __eq__, so generator expressions do not stand in them.
        for path, tree in trees().items():
            for node in ast.walk(tree):
                if isinstance(node, ast.Call) and isinstance(node.func, ast.Name):
                    if node.func.id in ("any", "all", "min", "max", "sum", "sorted"):
                        self.assertFalse(any(isinstance(one, ast.GeneratorExp) for one in node.args),
                                         (path, node.lineno))

    def test_operators_and_properties_change_nothing(self):
        functions = {}
        for path, tree in trees().items():
            for node in ast.walk(tree):
                if isinstance(node, ast.FunctionDef):
                    functions.setdefault(node.name, []).append((path, node))
                if isinstance(node, ast.ClassDef):
                    made = [child for child in node.body if isinstance(child, ast.FunctionDef)]
                    functions.setdefault(node.name, []).extend((path, one) for one in made if one.name == "__init__")
        todo = [one for name, found in functions.items() for one in found if runs_at_once(name, one[1])]
        seen = []
        while todo:
            path, function = todo.pop()
            if function not in seen:
                seen.append(function)
                self.assertEqual(changes_of(function), [], (path, function.name))
                for name in called_names(function):
                    todo.extend(functions.get(name, []))
        self.assertIn("least_of_net", [function.name for function in seen])

    def test_tests_stand_beside_the_package(self):
        self.assertEqual([path for path in found() if path.name.startswith("test")], [])
