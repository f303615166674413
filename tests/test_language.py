"""The form of the package: what of ../shared/LANGUAGE.md a test can see of its files."""

import ast
import pathlib
import unittest

PACKAGE = pathlib.Path(__file__).resolve().parent.parent / "knownquiet"
BUILTINS = (
    "len range enumerate zip min max sum abs sorted reversed int str bool list tuple dict set isinstance ord repr any "
    "all divmod pow iter next map super property staticmethod classmethod getattr hasattr setattr Exception ValueError "
    "TypeError KeyError IndexError LookupError ZeroDivisionError ArithmeticError OverflowError RuntimeError "
    "NotImplementedError AttributeError StopIteration NotImplemented"
).split()
EVERY_BUILTIN = dir(__import__("builtins"))
NOT_USED = (
    "register mro elements open input law version_info with_traceback add_note breakpoint compile delattr dir eval exec "
    "exit gc globals help id importlib license locals os quit type vars sys typing enum Enum namedtuple dataclass"
).split()
METHODS = (
    "append clear copy count endswith extend find get index insert isalnum isalpha isdigit islower isspace isupper items "
    "join keys ljust lower lstrip partition pop remove replace reverse rfind rjust rpartition rsplit rstrip setdefault "
    "split splitlines startswith strip update upper values zfill bit_length title capitalize swapcase removeprefix "
    "removesuffix rindex isascii isdecimal isnumeric translate"
).split()
DUNDERS = (
    "__init__ __eq__ __repr__ __str__ __len__ __enter__ __exit__ __call__ __iter__ __lt__ __le__ __gt__ __ge__ __ne__ "
    "__contains__ __getitem__ __setitem__ __bool__"
).split()
VIEWS = ("zip", "enumerate", "reversed", "range", "items", "keys", "values")
AT_ONCE = ("list", "tuple", "dict", "sorted", "sum", "any", "all", "enumerate", "zip", "min", "max")
BARRED = (
    "type typing typing_extensions enum Enum IntEnum StrEnum Flag IntFlag Generic Protocol ABC ABCMeta namedtuple "
    "NamedTuple TypedDict TYPE_CHECKING abstractmethod dataclass overload contextmanager"
).split()
LIBRARY = ("heapq", "math", "itertools", "collections")
FORBIDDEN = (
    ast.Global, ast.AsyncFunctionDef, ast.AsyncFor, ast.AsyncWith, ast.Await, ast.Import, ast.Div, ast.MatMult,
    ast.TryStar,
)


def files():
    return sorted(PACKAGE.rglob("*.py"))


def tree_of(file):
    return ast.parse(file.read_text(encoding="utf-8"))


def nodes(*kinds):
    """The pairs of a file and each node of these kinds in it."""
    return [(file, node) for file in files() for node in ast.walk(tree_of(file)) if isinstance(node, kinds)]


def bound_names(node):
    """The names that a node gives a meaning to."""
    if isinstance(node, (ast.FunctionDef, ast.ClassDef)):
        return [node.name]
    if isinstance(node, ast.arg):
        return [node.arg]
    if isinstance(node, ast.alias):
        return [node.asname or node.name]
    return [node.id] if isinstance(node, ast.Name) and isinstance(node.ctx, ast.Store) else []


def called(node):
    """The name of what a call calls."""
    return node.func.id if isinstance(node.func, ast.Name) else getattr(node.func, "attr", None)


def methods():
    """The functions that stand directly in classes."""
    return [part for _, node in nodes(ast.ClassDef) for part in node.body if isinstance(part, ast.FunctionDef)]


class LanguageTest(unittest.TestCase):
    def test_files(self):
        for path in PACKAGE.rglob("*"):
            if "__pycache__" not in path.parts:
                self.assertTrue(path.is_dir() or path.suffix == ".py", path)
                self.assertTrue(path.stem.replace("_", "").isalnum() and path.name.islower(), path)
        for folder in {file.parent for file in files()}:
            self.assertTrue((folder / "__init__.py").is_file())

    def test_sizes_and_signs(self):
        for file in files():
            text = file.read_text(encoding="utf-8")
            self.assertTrue(all(sign == "\n" or " " <= sign <= "~" for sign in text), file)
            lines = text.split("\n")
            self.assertLess(len(lines), 401, file)
            for number, line in enumerate(lines, start=1):
                self.assertLessEqual(len(line), 120, (file, number))
        for file, node in nodes(ast.FunctionDef):
            self.assertLessEqual(node.end_lineno - node.lineno + 1, 40, (file, node.name))

    def test_imports(self):
        for file, node in nodes(ast.ImportFrom):
            self.assertEqual(node.level, 0, file)
            self.assertNotIn("*", [alias.name for alias in node.names])
            if node.module not in LIBRARY and node.module != "__future__":
                self.assertEqual(node.module.split(".")[0], "knownquiet", file)
                target = PACKAGE.parent.joinpath(*node.module.split(".")).with_suffix(".py")
                bound = [name for part in tree_of(target).body for name in self.defined(part)]
                for alias in node.names:
                    self.assertIn(alias.name, bound, (file, node.module))

    def test_no_two_import_each_other(self):
        wants = {"knownquiet." + file.stem: [] for file in files()}
        for file, node in nodes(ast.ImportFrom):
            wants["knownquiet." + file.stem].append(node.module)
        left = dict(wants)
        while left:
            ready = [name for name in left if not [want for want in left[name] if want in left]]
            self.assertTrue(ready, left)
            left = {name: left[name] for name in left if name not in ready}

    def defined(self, part):
        if isinstance(part, ast.Assign):
            return [target.id for target in part.targets]
        return [part.name] if isinstance(part, (ast.FunctionDef, ast.ClassDef)) else []

    def test_module_level(self):
        for file in files():
            names = []
            for place, part in enumerate(tree_of(file).body):
                docstring = place == 0 and isinstance(part, ast.Expr) and isinstance(part.value, ast.Constant)
                kinds = (ast.ImportFrom, ast.FunctionDef, ast.ClassDef, ast.Assign)
                self.assertTrue(docstring or isinstance(part, kinds), (file, part.lineno))
                if isinstance(part, ast.Assign):
                    self.assertEqual(len(part.targets), 1)
                    self.assertIsInstance(part.targets[0], ast.Name)
                    self.assertFalse([node for node in ast.walk(part) if isinstance(node, ast.Call)], file)
                names += self.defined(part)
                names += [alias.name for alias in part.names] if isinstance(part, ast.ImportFrom) else []
            self.assertEqual(len(names), len(set(names)), file)

    def test_what_is_not_written(self):
        self.assertEqual([(file.name, node.lineno) for file, node in nodes(*FORBIDDEN)], [])
        for file, node in nodes(ast.Constant):
            self.assertIsInstance(node.value, (int, str, bytes, bool, type(None), type(...)), (file, node.lineno))
            if isinstance(node.value, str):
                self.assertNotIn(chr(37), node.value, (file, node.lineno))
        for file, node in nodes(ast.ExceptHandler):
            self.assertIsNotNone(node.type, (file, node.lineno))
        for file, node in nodes(ast.Compare):
            for sign, other in zip(node.ops, node.comparators):
                if isinstance(sign, (ast.Is, ast.IsNot)):
                    self.assertIsInstance(other, ast.Constant, (file, node.lineno))

    def test_names(self):
        for file, node in nodes(ast.Name):
            if node.id in EVERY_BUILTIN:
                self.assertIn(node.id, BUILTINS, (file, node.lineno))
            self.assertNotIn(node.id, NOT_USED, (file, node.lineno))
        own = [id(method) for method in methods()]
        for file in files():
            tree = tree_of(file)
            fixed = [node.name for node in tree.body if isinstance(node, ast.ClassDef)]
            fixed += [name.name for node in tree.body if isinstance(node, ast.ImportFrom) for name in node.names]
            for node in ast.walk(tree):
                for name in bound_names(node):
                    self.assertNotIn(name, EVERY_BUILTIN, file)
                    self.assertNotIn(name, NOT_USED, file)
                    if not isinstance(node, (ast.ClassDef, ast.alias)) and id(node) not in own:
                        self.assertNotIn(name, fixed, file)

    def test_methods(self):
        own = [method.name for method in methods()]
        for name in own:
            self.assertTrue(not name.startswith("__") or name in DUNDERS, name)
        for file, node in nodes(ast.Call):
            if isinstance(node.func, ast.Attribute):
                self.assertIn(node.func.attr, own + METHODS, (file, node.lineno))
        for file, node in nodes(ast.FunctionDef, ast.ClassDef):
            self.assertEqual(node.decorator_list, [], (file, node.name))

    def test_what_the_package_does_without(self):
        kinds = (
            ast.Set, ast.SetComp, ast.Lambda, ast.Yield, ast.YieldFrom, ast.Starred, ast.NamedExpr, ast.Match, ast.With,
            ast.Nonlocal, ast.AnnAssign,
        )
        self.assertEqual([(file.name, node.lineno) for file, node in nodes(*kinds)], [])
        for file, node in nodes(ast.FunctionDef):
            arguments = node.args
            odd = [arguments.defaults, arguments.vararg, arguments.kwarg, arguments.kwonlyargs, arguments.posonlyargs]
            self.assertFalse(any(odd), (file, node.name))
            inner = [part for part in ast.walk(node) if isinstance(part, ast.FunctionDef) and part is not node]
            self.assertEqual(inner, [], (file, node.name))
        for file, node in nodes(ast.Call):
            keywords = [keyword.arg for keyword in node.keywords]
            self.assertIn(keywords, ([], ["start"], ["default"]), (file, node.lineno))

    def test_views_are_iterated_at_once(self):
        for file in files():
            tree = tree_of(file)
            above = {id(child): node for node in ast.walk(tree) for child in ast.iter_child_nodes(node)}
            for node in ast.walk(tree):
                if isinstance(node, ast.Call) and called(node) in VIEWS:
                    over = above[id(node)]
                    fine = isinstance(over, (ast.For, ast.comprehension)) and over.iter is node
                    fine = fine or (isinstance(over, ast.Call) and called(over) in AT_ONCE and over.args[0] is node)
                    self.assertTrue(fine, (file, node.lineno))

    def test_super(self):
        for file, node in nodes(ast.ClassDef):
            for method in [part for part in node.body if isinstance(part, ast.FunctionDef)]:
                for part in ast.walk(method):
                    if isinstance(part, ast.Name) and part.id == "super":
                        self.assertNotEqual(method.name, "__init__", file)

    def test_raise(self):
        for file, node in nodes(ast.Raise):
            self.assertIsInstance(node.exc, ast.Call, (file, node.lineno))
            self.assertIsInstance(node.exc.func, ast.Name, (file, node.lineno))
            self.assertIsNone(node.cause, (file, node.lineno))

    def test_strings(self):
        for file in files():
            tree = tree_of(file)
            owners = [node for node in ast.walk(tree) if isinstance(node, (ast.Module, ast.ClassDef, ast.FunctionDef))]
            docstrings = [id(node.body[0].value) for node in owners if node.body and isinstance(node.body[0], ast.Expr)]
            for node in ast.walk(tree):
                if isinstance(node, ast.Constant) and isinstance(node.value, str) and id(node) not in docstrings:
                    self.assertNotIn("__", node.value, (file, node.lineno))
                    for word in BARRED:
                        self.assertNotIn(word, node.value.replace(".", " ").split(" "), (file, node.lineno))

    def test_tables(self):
        # A table at module level holds no lists and no dicts.
        for file in files():
            for part in tree_of(file).body:
                if isinstance(part, ast.Assign):
                    inner = [node for node in ast.walk(part.value) if node is not part.value]
                    self.assertFalse([node for node in inner if isinstance(node, (ast.List, ast.Dict))], file)

    def test_sets_and_generators(self):
        # A class has an equality of its own: any, all, sum and their kin take lists.
        self.assertEqual([(file.name, node.lineno) for file, node in nodes(ast.GeneratorExp)], [])
        for file, node in nodes(ast.Call):
            if isinstance(node.func, ast.Attribute):
                self.assertNotEqual(node.func.attr, "sort", (file, node.lineno))

    def test_no_name_is_a_method_and_an_attribute(self):
        every = [method.name for method in methods()]
        for file, node in nodes(ast.ClassDef):
            inside = [part.name for part in node.body if isinstance(part, ast.FunctionDef)]
            stored = [
                part.attr for part in ast.walk(node) if isinstance(part, ast.Attribute) and isinstance(part.ctx, ast.Store)
            ]
            self.assertEqual([name for name in stored if name in inside], [], (file, node.name))
            # A subclass reads what its bases store: no name is a method in one class and an attribute in another.
            self.assertEqual([name for name in stored if name in every], [], (file, node.name))
            self.assertEqual(len(inside), len(set(inside)), (file, node.name))


if __name__ == "__main__":
    unittest.main()
