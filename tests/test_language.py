"""The rules of LANGUAGE.md that can be read off the code of the package (not all of them can)."""

import ast
import builtins
import re
import unittest
import warnings
from pathlib import Path

PACKAGE = Path(__file__).resolve().parent.parent / "gazette"

BUILTINS = set(
    "len range enumerate zip min max sum abs sorted reversed int str bool bytes list tuple dict set frozenset"
    " isinstance ord repr any all divmod pow iter next ValueError NotImplemented super property".split()
)
METHODS = set(
    "append clear copy count endswith extend find get index insert isalnum isalpha isdigit islower isspace isupper"
    " items join keys ljust lower lstrip partition pop remove replace reverse rfind rjust rpartition rsplit rstrip"
    " setdefault split splitlines startswith strip update upper values zfill bit_length __init__ add discard".split()
)
BARRED_NAMES = set(
    "register mro elements open input law version_info with_traceback add_note attrgetter breakpoint builtins compile"
    " copyright credits delattr dir eval exec exit gc getattr globals hasattr help id importlib license locals"
    " methodcaller os quit setattr super type vars sys".split()
)
BARRED_WORDS = set(
    "typing typing_extensions enum Enum IntEnum StrEnum Flag IntFlag Generic Protocol ABC ABCMeta namedtuple"
    " NamedTuple TypedDict TYPE_CHECKING abstractmethod _wall _WallAttr".split()
)
ALLOWED_NAMES = {"_", "__init__", "__len__", "__iter__", "__str__"}
LIBRARY = {"heapq", "math", "itertools", "collections"}
NOT_USED = (
    ast.AsyncFunctionDef, ast.AsyncFor, ast.AsyncWith, ast.Await, ast.Import, ast.Div, ast.MatMult, ast.Global,
    ast.NamedExpr, ast.AnnAssign,
)
VIEWS = {"range", "zip", "enumerate", "reversed", "items", "keys", "values"}
# What these calls give goes over what they are passed or is an item of it. Whether own functions hand on
# what they are passed is not looked for.
HANDING_ON = VIEWS - {"range"} | {"iter", "map", "min", "max", "get", "pop", "setdefault"}
TAKERS = {"list", "tuple", "dict", "sorted", "sum", "any", "all", "enumerate", "zip", "min", "max", "len", "reversed"}


def sources():
    return {path.stem: path.read_text() for path in sorted(PACKAGE.glob("*.py"))}


def parsed(source):
    """The tree of a file, with the node around each node as its attribute `around`."""
    tree = ast.parse(source)
    for node in ast.walk(tree):
        for child in ast.iter_child_nodes(node):
            child.around = node
    return tree


def called(node):
    """The name of what a call calls, or None."""
    if not isinstance(node, ast.Call):
        return None
    return getattr(node.func, "id", getattr(node.func, "attr", None))


def bound_names(tree):
    """All names that a file binds, apart from attributes."""
    for node in ast.walk(tree):
        if isinstance(node, (ast.FunctionDef, ast.ClassDef)):
            yield node.name
        elif isinstance(node, ast.arg):
            yield node.arg
        elif isinstance(node, ast.Name) and not isinstance(node.ctx, ast.Load):
            yield node.id
        elif isinstance(node, ast.ExceptHandler) and node.name:
            yield node.name
        elif isinstance(node, ast.ImportFrom):
            yield from [alias.asname or alias.name for alias in node.names]


def defined(tree):
    """The names that a file defines itself at module level."""
    found = []
    for node in tree.body:
        if isinstance(node, (ast.FunctionDef, ast.ClassDef)):
            found.append(node.name)
        elif isinstance(node, ast.Assign):
            found.append(node.targets[0].id)
    return found


def docstrings(tree):
    kinds = (ast.Module, ast.FunctionDef, ast.ClassDef)
    bodies = [node.body for node in ast.walk(tree) if isinstance(node, kinds) and node.body]
    return [id(body[0].value) for body in bodies if isinstance(body[0], ast.Expr)]


def changed_and_got(node):
    """What `+=`, `|=`, `extend` or `update` changes, and a list of what it gets; two times None for other nodes."""
    if isinstance(node, ast.AugAssign) and isinstance(node.op, (ast.Add, ast.BitOr)):
        return node.target, [node.value]
    if called(node) in ("extend", "update") and isinstance(node.func, ast.Attribute):
        return node.func.value, node.args
    return None, None


def handed_on(value):
    """The parts of a value that it goes over, or that it may be itself or an item of."""
    if isinstance(value, (ast.Subscript, ast.Starred)):
        return [value.value]
    if isinstance(value, ast.IfExp):
        return [value.body, value.orelse]
    if isinstance(value, ast.BoolOp):
        return value.values
    if isinstance(value, ast.GeneratorExp):
        return [part.iter for part in value.generators]
    if called(value) in HANDING_ON:
        owner = [value.func.value] if isinstance(value.func, ast.Attribute) else []
        return owner + value.args
    return []


def sources_of_names(function):
    """A dict with what a function assigns to each of its variables, and what it goes over by them."""
    found = {}
    for node in ast.walk(function):
        if isinstance(node, ast.Assign):
            targets, value = node.targets, node.value
        elif isinstance(node, ast.For):
            targets, value = [node.target], node.iter
        else:
            continue
        for target in targets:
            names = target.elts if isinstance(target, ast.Tuple) else [target]
            for name in [name.id for name in names if isinstance(name, ast.Name)]:
                found.setdefault(name, []).append(value)
    return found


def names_got(values, sources):
    """The names of what values may be, or be items of, also by way of other variables."""
    found, left = set(), list(values)
    while left:
        value = left.pop()
        if not isinstance(value, (ast.Name, ast.Attribute)):
            left.extend(handed_on(value))
        elif ast.unparse(value) not in found:
            found.add(ast.unparse(value))
            left.extend(sources.get(ast.unparse(value), []))
    return found


def changes_by_themselves(tree):
    """The rows in which `+=`, `|=`, `extend` or `update` gets what it changes, or an item of it."""
    found = []
    for function in [node for node in ast.walk(tree) if isinstance(node, ast.FunctionDef)]:
        sources = sources_of_names(function)
        for node in ast.walk(function):
            changed, got = changed_and_got(node)
            while isinstance(changed, ast.Subscript):
                changed = changed.value
            if changed is not None and ast.unparse(changed) in names_got(got, sources):
                found.append(ast.unparse(node))
    return found


def for_each_file(check):
    """A test that checks each file of the package by itself."""
    def test(self):
        for name, source in sources().items():
            with self.subTest(file=name):
                check(self, source, parsed(source))
    return test


class LanguageTest(unittest.TestCase):
    def test_folder(self):
        names = [path.name for path in PACKAGE.iterdir() if path.name != "__pycache__"]
        self.assertLessEqual(len(names), 100)
        for name in names:
            self.assertRegex(name, r"\A(__init__|[a-z][a-z0-9_]*)\.py\Z")

    @for_each_file
    def test_characters_and_sizes(self, source, tree):
        self.assertEqual(re.findall(r"[^ -~\n]", source), [])
        lines = source.split("\n")
        self.assertLessEqual(len(lines) - 1, 399)
        self.assertLessEqual(max(map(len, lines)), 120)
        for node in ast.walk(tree):
            if isinstance(node, ast.FunctionDef):
                self.assertLessEqual(node.end_lineno - node.lineno + 1, 40, node.name)

    @for_each_file
    def test_no_warnings(self, source, tree):
        with warnings.catch_warnings():
            warnings.simplefilter("error")
            compile(source, "file", "exec")

    @for_each_file
    def test_module_level(self, source, tree):
        self.assertIsNotNone(ast.get_docstring(tree))
        for node in tree.body[1:]:
            self.assertIsInstance(node, (ast.ImportFrom, ast.FunctionDef, ast.ClassDef, ast.Assign))
            if isinstance(node, ast.Assign):
                self.assertEqual([type(target) for target in node.targets], [ast.Name])
        self.assertEqual(len(defined(tree)), len(set(defined(tree))))

    def test_imports(self):
        trees = {name: parsed(source) for name, source in sources().items()}
        needs = {name: set() for name in trees}
        for name, tree in trees.items():
            for node in ast.walk(tree):
                if isinstance(node, ast.ImportFrom) and node.module not in LIBRARY:
                    self.assertEqual(node.level, 0)
                    package, _, module = node.module.partition(".")
                    self.assertEqual(package, "gazette")
                    needs[name].add(module)
                    for alias in node.names:
                        self.assertIn(alias.name, defined(trees[module]), f"{name}: {node.module}")
        while needs:
            free = [name for name, wanted in needs.items() if not wanted]
            self.assertTrue(free, f"circular imports: {needs}")
            needs = {name: wanted - set(free) for name, wanted in needs.items() if name not in free}

    @for_each_file
    def test_every_import_is_read(self, source, tree):
        read = [node.id for node in ast.walk(tree) if isinstance(node, ast.Name)]
        for node in ast.walk(tree):
            if isinstance(node, ast.ImportFrom):
                self.assertEqual([alias.name for alias in node.names if alias.name not in read], [])

    @for_each_file
    def test_names(self, source, tree):
        for name in bound_names(tree):
            self.assertRegex(name, r"\A(__[a-z]+__|_?[A-Za-z][A-Za-z0-9_]*|_)\Z")
            self.assertFalse(name not in ALLOWED_NAMES and hasattr(builtins, name), name)
            self.assertNotIn(name, BARRED_NAMES | BARRED_WORDS)
        for node in ast.walk(tree):
            if isinstance(node, ast.Name) and node.id not in list(bound_names(tree)):
                self.assertIn(node.id, BUILTINS)

    @for_each_file
    def test_no_inner_name_hides_a_class_or_an_import(self, source, tree):
        outer = [node.name for node in tree.body if isinstance(node, ast.ClassDef)]
        for node in tree.body:
            if isinstance(node, ast.ImportFrom):
                outer += [alias.name for alias in node.names]
        for node in ast.walk(tree):
            name = getattr(node, "arg", None) if isinstance(node, ast.arg) else getattr(node, "id", None)
            if isinstance(node, ast.arg) or (isinstance(node, ast.Name) and isinstance(node.ctx, ast.Store)):
                self.assertNotIn(name, outer)

    @for_each_file
    def test_kinds_of_code(self, source, tree):
        told = docstrings(tree)
        for node in ast.walk(tree):
            self.assertNotIsInstance(node, NOT_USED)
            if isinstance(node, ast.FunctionDef) and node.decorator_list:
                self.assertEqual(list(map(ast.unparse, node.decorator_list)), ["property"])
                self.check_property(node)
            if isinstance(node, ast.Constant):
                self.assertNotIsInstance(node.value, (float, complex))
                if isinstance(node.value, str) and id(node) not in told:
                    self.assertNotIn(chr(37), node.value)
            if isinstance(node, ast.Compare) and isinstance(node.ops[0], (ast.Is, ast.IsNot)):
                self.assertIn(ast.unparse(node.comparators[0]), ("None", "True", "False"))
            if isinstance(node, ast.Raise) and node.exc:
                self.assertIsInstance(node.exc, ast.Call)

    def check_property(self, node):
        """A property only tells what an attribute has: it changes and calls nothing."""
        self.assertIsInstance(node.around, ast.ClassDef)
        self.assertEqual([type(statement) for statement in node.body], [ast.Expr, ast.Return])
        self.assertEqual([inner for inner in ast.walk(node) if called(inner) not in (None, "len")], [])

    def test_a_class_with_a_length(self):
        """What a class with `__len__` bars from the whole package."""
        for source in sources().values():
            for node in ast.walk(parsed(source)):
                self.assertNotIsInstance(node, ast.Try)
                self.assertNotIn(called(node), ("sort", "product", "combinations", "permutations"))

    @for_each_file
    def test_no_change_gets_what_it_changes(self, source, tree):
        """The package has a class that is iterated over, so this holds in all of its files."""
        self.assertEqual(changes_by_themselves(tree), [])

    def test_changes_that_get_what_they_change_are_found(self):
        for rows in (
            "xs[ys[k - 1]] += xs[k]", "xs[0][1] += xs[k]", "xs += xs", "xs |= xs", "xs.extend(xs)", "xs.update(xs)",
            "xs[k].extend(xs[0])", "xs += ys if k else xs", "xs += ys or xs", "xs.extend(xs[k:])",
            "xs.extend(reversed(xs))", "xs += zip(ys, xs)", "xs.update(xs.items())", "xs.extend(x for x in xs)",
            "xs[k] += max(xs)", "xs[k] += xs.get(0)", "self.xs += self.xs", "self.xs[k] += self.xs[0]",
            "x = xs[0]; xs[k] += x", "x, y = xs; z = x; xs[k] += z", "for k, x in enumerate(xs): xs[k] += x",
        ):
            with self.subTest(rows=rows):
                tree = parsed(f"def change(self, xs, ys, k):\n    {rows}")
                self.assertEqual(len(changes_by_themselves(tree)), 1)

    def test_changes_that_get_something_else_are_not_found(self):
        for rows in (
            "xs[k] = xs[k] + xs[0]", "xs[k] -= xs[0]", "xs[xs[k]] += ys[k]", "xs += list(xs)", "k += len(xs)",
            "xs.extend(list(xs))", "xs.extend([x for x in xs])", "xs.append(xs)", "self.xs += self.ys",
            "xs = list(ys); xs[k] += ys[0]", "for y in ys: xs[k] += y", "xs[k] += ys[xs[0]]",
        ):
            with self.subTest(rows=rows):
                tree = parsed(f"def change(self, xs, ys, k):\n    {rows}")
                self.assertEqual(changes_by_themselves(tree), [])

    @for_each_file
    def test_words(self, source, tree):
        strings = [n.value for n in ast.walk(tree) if isinstance(n, ast.Constant) and isinstance(n.value, str)]
        names = [n.attr for n in ast.walk(tree) if isinstance(n, ast.Attribute)] + list(bound_names(tree))
        self.assertEqual([name for name in names if name in BARRED_WORDS], [])
        self.assertNotRegex(source, "dataclass|overload|contextmanager")
        for text in strings:
            self.assertEqual([word for word in re.findall(r"\w+", text) if word in BARRED_WORDS], [])

    def test_methods(self):
        trees = [parsed(source) for source in sources().values()]
        own = {
            node.name for tree in trees for node in ast.walk(tree)
            if isinstance(node, ast.FunctionDef) and isinstance(node.around, ast.ClassDef)
        }
        for tree in trees:
            for node in ast.walk(tree):
                if isinstance(node, ast.Call) and isinstance(node.func, ast.Attribute):
                    self.assertIn(node.func.attr, METHODS | own)

    @for_each_file
    def test_views_are_iterated_at_once_and_sets_stand_in_their_places(self, source, tree):
        for node in ast.walk(tree):
            if called(node) in VIEWS:
                around = node.around
                looped = isinstance(around, (ast.For, ast.comprehension)) and around.iter is node
                tested = isinstance(around, ast.Compare) and isinstance(around.ops[0], (ast.In, ast.NotIn))
                self.assertTrue(looped or tested or called(around) in TAKERS, ast.unparse(around))
            if called(node) == "set" or isinstance(node, (ast.Set, ast.SetComp)):
                around = node.around
                fits = isinstance(around, (ast.Compare, ast.Assign)) or called(around) in ("sorted", "len")
                self.assertTrue(fits, ast.unparse(around))
            if isinstance(node, ast.GeneratorExp):
                self.assertIn(called(node.around), TAKERS | {"join"})


if __name__ == "__main__":
    unittest.main()
