"""The form of the package's files: those rules of LANGUAGE.md that a look at the code can tell."""

import ast
import builtins
import pathlib
import re
import unittest
import warnings

PACKAGE = pathlib.Path(__file__).resolve().parent.parent / "opencalls"
FILES = sorted(PACKAGE.glob("*.py"))

BUILTINS = set(
    "len range enumerate zip min max sum abs sorted reversed int str bool bytes list tuple dict set isinstance ord"
    " repr any all divmod iter next super property staticmethod classmethod Exception ValueError TypeError KeyError"
    " IndexError LookupError ZeroDivisionError ArithmeticError OverflowError RuntimeError NotImplementedError"
    " AttributeError StopIteration NotImplemented".split()
)
WORDS = (
    "type typing typing_extensions enum Enum IntEnum StrEnum Flag IntFlag Generic Protocol ABC ABCMeta namedtuple"
    " NamedTuple TypedDict TYPE_CHECKING abstractmethod"
).split()
NOT_NAMES = set("register mro elements open input version_info with_traceback add_note".split())
LISTS_ONLY = set("any all min max sum sorted".split())
AT_ONCE = set("zip enumerate reversed range".split())
METHODS = set(
    "append copy count extend find get index insert items join keys partition pop replace split values".split()
)


def tree_of(path):
    return ast.parse(path.read_text(encoding="utf-8"))


def names_of(tree):
    """All names that the code binds or uses, with the nodes they stand in."""
    for node in ast.walk(tree):
        if isinstance(node, ast.Name):
            yield node.id
        elif isinstance(node, ast.Attribute):
            yield node.attr
        elif isinstance(node, (ast.arg, ast.keyword)) and node.arg is not None:
            yield node.arg
        elif isinstance(node, (ast.FunctionDef, ast.ClassDef)):
            yield node.name
        elif isinstance(node, ast.ExceptHandler) and node.name is not None:
            yield node.name


def imports_of(tree):
    """Pairs of a module's file and a name imported from it."""
    for node in tree.body:
        if isinstance(node, ast.ImportFrom):
            yield from ((node.module.split(".")[1], alias.name) for alias in node.names)


def top_names(tree):
    """The names bound at module level, those of imports left out, each as often as it is bound."""
    for node in tree.body:
        if isinstance(node, (ast.FunctionDef, ast.ClassDef)):
            yield node.name
        elif isinstance(node, ast.Assign):
            yield node.targets[0].id


def local_names(tree):
    """The names of parameters, local variables, loops and comprehensions."""
    for function in ast.walk(tree):
        if isinstance(function, (ast.FunctionDef, ast.Lambda)):
            for node in ast.walk(function):
                if isinstance(node, ast.arg):
                    yield node.arg
                elif isinstance(node, ast.Name) and isinstance(node.ctx, ast.Store):
                    yield node.id


def reached(graph, start):
    """The files that a file imports from, directly or through others."""
    seen, left = set(), [start]
    while left:
        for name in graph[left.pop()] - seen:
            seen.add(name)
            left.append(name)
    return seen


class Form(unittest.TestCase):
    def test_the_folder_holds_plain_files_only(self):
        self.assertIn(PACKAGE / "__init__.py", FILES)
        for path in PACKAGE.iterdir():
            if path.name != "__pycache__":
                self.assertRegex(path.name, r"\A(__init__|[a-z][a-z0-9_]*)\.py\Z")

    def test_characters_lines_and_words(self):
        for path in FILES:
            text = path.read_bytes().decode("ascii")
            lines = text.split("\n")
            with self.subTest(path.name):
                self.assertRegex(text, r"\A[ -~\n]*\Z")
                self.assertLessEqual(len(lines), 400)
                self.assertLessEqual(max(map(len, lines)), 120)
                self.assertIsNone(re.search(r"\b(" + "|".join(WORDS) + r")\b", text))
                self.assertIsNone(re.search("dataclass|overload|contextmanager", text))

    def test_python_gives_no_warning(self):
        for path in FILES:
            with warnings.catch_warnings():
                warnings.simplefilter("error")
                compile(path.read_text(encoding="utf-8"), str(path), "exec")

    def test_imports(self):
        for path in FILES:
            for node in ast.walk(tree_of(path)):
                with self.subTest(path.name):
                    self.assertNotIsInstance(node, ast.Import)
                    if isinstance(node, ast.ImportFrom):
                        self.assertEqual(node.level, 0)
                        self.assertRegex(node.module, r"\Aopencalls\.[a-z0-9_]+\Z")
                        self.assertNotIn("*", [alias.name for alias in node.names])

    def test_names(self):
        foreign = set(dir(builtins)) - BUILTINS
        for path in FILES:
            tree = tree_of(path)
            used = {node.id for node in ast.walk(tree) if isinstance(node, ast.Name)}
            with self.subTest(path.name):
                self.assertEqual(used & foreign, set())
                for name in names_of(tree):
                    self.assertNotIn(name, NOT_NAMES)
                    self.assertRegex(name, r"\A([A-Za-z][A-Za-z0-9_]*|__[a-z]+__)\Z")

    def test_module_level(self):
        for path in FILES:
            tree = tree_of(path)
            bound = [*top_names(tree), *[name for module, name in imports_of(tree)]]
            with self.subTest(path.name):
                self.assertEqual(sorted(set(bound)), sorted(bound))
                for node in tree.body[1:]:
                    self.assertIsInstance(node, (ast.ImportFrom, ast.FunctionDef, ast.ClassDef, ast.Assign))
                    for part in ast.walk(node) if isinstance(node, ast.Assign) else ():
                        self.assertNotIsInstance(part, (ast.Call, ast.ListComp, ast.Set))

    def test_imports_name_the_defining_file_and_make_no_ring(self):
        trees = {path.stem: tree_of(path) for path in FILES}
        graph = {stem: {module for module, name in imports_of(tree)} for stem, tree in trees.items()}
        for stem, tree in trees.items():
            with self.subTest(stem):
                self.assertNotIn(stem, reached(graph, stem))
                for module, name in imports_of(tree):
                    self.assertIn(name, list(top_names(trees[module])))

    def test_local_names_mean_nothing_else(self):
        for path in FILES:
            tree = tree_of(path)
            taken = set(dir(builtins)) | {name for module, name in imports_of(tree)} | set(top_names(tree))
            with self.subTest(path.name):
                self.assertEqual(set(local_names(tree)) & taken, set())

    def test_methods_and_attributes(self):
        methods, stored, read = set(), set(), set()
        for path in FILES:
            for node in ast.walk(tree_of(path)):
                if isinstance(node, ast.ClassDef):
                    methods |= {part.name for part in node.body if isinstance(part, ast.FunctionDef)}
                elif isinstance(node, ast.Attribute):
                    (stored if isinstance(node.ctx, ast.Store) else read).add(node.attr)
        self.assertEqual(methods & stored, set())
        self.assertEqual(stored & METHODS, set())
        self.assertEqual(read - methods - stored - METHODS, set())

    def test_errors_are_raised_on_the_spot_and_only_own_ones_are_caught(self):
        for path in FILES:
            for node in ast.walk(tree_of(path)):
                with self.subTest(path.name, line=getattr(node, "lineno", 0)):
                    if isinstance(node, ast.ExceptHandler):
                        caught = {part.id for part in ast.walk(node.type) if isinstance(part, ast.Name)}
                        self.assertEqual(caught & set(dir(builtins)), set())
                    elif isinstance(node, ast.Raise) and node.exc is not None:
                        self.assertIsInstance(node.exc, ast.Call)
                        self.assertIsInstance(node.exc.func, ast.Name)

    def test_double_underscore_methods_assign_nothing(self):
        for path in FILES:
            for node in ast.walk(tree_of(path)):
                if isinstance(node, ast.FunctionDef) and node.name in ("__eq__", "__len__", "__str__"):
                    with self.subTest(path.name, function=node.name):
                        self.assertEqual([type(part) for part in node.body], [ast.Return])

    def test_functions_are_small(self):
        for path in FILES:
            for node in ast.walk(tree_of(path)):
                if isinstance(node, ast.FunctionDef):
                    with self.subTest(path.name, function=node.name):
                        self.assertLessEqual(node.end_lineno - node.lineno + 1, 40)
                        self.assertEqual(node.args.posonlyargs, [])

    def test_values_and_signs(self):
        barred = (ast.Div, ast.MatMult, ast.Global, ast.AsyncFunctionDef, ast.Await)
        for path in FILES:
            for node in ast.walk(tree_of(path)):
                with self.subTest(path.name, line=getattr(node, "lineno", 0)):
                    self.assertNotIsInstance(node, barred)
                    self.check_value(node)

    def check_value(self, node):
        if isinstance(node, ast.Constant):
            self.assertNotIsInstance(node.value, (float, complex))
            if isinstance(node.value, str):
                self.assertNotIn("%", node.value)
        elif isinstance(node, ast.BinOp) and isinstance(node.op, ast.Pow):
            self.assertIsInstance(node.right, ast.Constant)
        elif isinstance(node, ast.Compare) and any(isinstance(op, (ast.Is, ast.IsNot)) for op in node.ops):
            self.assertTrue(all(isinstance(side, ast.Constant) for side in node.comparators))
            self.assertTrue(all(side.value in (None, True, False) for side in node.comparators))
        elif isinstance(node, ast.Call) and isinstance(node.func, ast.Name) and node.func.id in LISTS_ONLY:
            # The book compares by its own __eq__, and beside such a class these take lists.
            self.assertFalse(any(isinstance(part, ast.GeneratorExp) for part in node.args))
        elif isinstance(node, (ast.Assign, ast.Return)) and isinstance(node.value, ast.Call):
            self.assertNotIn(getattr(node.value.func, "id", None), AT_ONCE)


if __name__ == "__main__":
    unittest.main()
