"""Tests of the package's form: those rules of the language that can be seen in the syntax tree."""

import ast
import builtins
import pathlib
import unittest

PACKAGE = pathlib.Path(__file__).resolve().parent.parent / "levelhues"
LIBRARY = {"heapq", "math", "itertools", "collections"}
CALLABLE = set(
    "len range enumerate zip min max sum abs sorted reversed int str bool bytes list tuple dict set frozenset "
    "isinstance ord repr any all divmod pow getattr hasattr setattr iter next map type "
    "property classmethod staticmethod super "
    "Exception ValueError TypeError KeyError IndexError LookupError ZeroDivisionError ArithmeticError OverflowError "
    "RuntimeError NotImplementedError AttributeError StopIteration NotImplemented".split()
)
SPECIAL = set(
    "__init__ __eq__ __repr__ __str__ __len__ __enter__ __exit__ __call__ __iter__ __lt__ __le__ __gt__ __ge__ __ne__ "
    "__add__ __sub__ __mul__ __floordiv__ __mod__ __and__ __or__ __xor__ __neg__ __invert__ __bool__ __contains__ "
    "__getitem__ __setitem__".split()
)
BARRED = (
    ast.AsyncFunctionDef, ast.AsyncFor, ast.AsyncWith, ast.Await, ast.Import, ast.Div, ast.MatMult,
)
# Words that stand nowhere, and words that stand only in comments and docstrings.
BARRED_WORDS = set(
    "register mro elements open input law version_info with_traceback add_note attrgetter breakpoint builtins compile copyright credits "
    "delattr dir eval exec exit gc globals help id importlib license locals methodcaller os quit setattr vars sys "
    "type typing typing_extensions enum Enum IntEnum StrEnum Flag IntFlag Generic Protocol ABC ABCMeta namedtuple NamedTuple TypedDict "
    "TYPE_CHECKING abstractmethod".split()
)
# Where a class has an `__eq__`, these take a list instead of a generator expression.
TAKE_LISTS = {"any", "all", "min", "max", "sum", "sorted", "set"}


COMPREHENSIONS = (ast.ListComp, ast.DictComp, ast.SetComp)


def targets(comprehension):
    """The names that the loops of a comprehension assign."""
    return {
        node.id for loop in comprehension.generators for node in ast.walk(loop.target) if isinstance(node, ast.Name)
    }


def sources():
    """The files of the package with their texts."""
    return [(path, path.read_text(encoding="utf-8")) for path in sorted(PACKAGE.rglob("*.py"))]


def trees():
    """The files of the package with their syntax trees."""
    return [(path, ast.parse(text)) for path, text in sources()]


def nodes(kind):
    """All nodes of a kind, each with the place that a message names."""
    return [
        (node, f"{path.relative_to(PACKAGE)}:{getattr(node, 'lineno', 0)}")
        for path, tree in trees() for node in ast.walk(tree) if isinstance(node, kind)
    ]


def names_bound_in(file):
    """The names of the functions, classes and constants that a file defines itself."""
    body = ast.parse(file.read_text(encoding="utf-8")).body
    defined = {item.name for item in body if isinstance(item, (ast.FunctionDef, ast.ClassDef))}
    return defined | {item.targets[0].id for item in body if isinstance(item, ast.Assign)}


class FormTest(unittest.TestCase):
    def test_folder_holds_only_source_files(self):
        for path in PACKAGE.rglob("*"):
            if "__pycache__" not in path.parts:
                with self.subTest(path=path.name):
                    self.assertTrue((path / "__init__.py").is_file() if path.is_dir() else path.suffix == ".py")

    def test_sizes_and_characters(self):
        for path, text in sources():
            with self.subTest(path=path.name):
                self.assertTrue(text.isascii() and text.replace("\n", "").isprintable())
                self.assertLessEqual(len(text.splitlines()), 399)
                self.assertLessEqual(max(map(len, text.splitlines()), default=0), 120)
        for node, where in nodes(ast.FunctionDef):
            with self.subTest(where=where):
                self.assertLessEqual(node.end_lineno - node.lineno + 1, 40)

    def test_imports(self):
        for node, where in nodes(ast.ImportFrom):
            with self.subTest(where=where):
                self.assertEqual(node.level, 0)
                if node.module not in LIBRARY:
                    file = PACKAGE.parent.joinpath(*node.module.split(".")).with_suffix(".py")
                    self.assertLessEqual({alias.name for alias in node.names}, names_bound_in(file))

    def test_imports_are_used(self):
        for path, tree in trees():
            used = {node.id for node in ast.walk(tree) if isinstance(node, ast.Name)}
            for node in ast.walk(tree):
                if isinstance(node, ast.ImportFrom):
                    with self.subTest(path=path.name):
                        self.assertLessEqual({alias.name for alias in node.names}, used)

    def test_barred_words(self):
        for node, where in nodes((ast.Name, ast.Attribute, ast.arg, ast.FunctionDef, ast.ClassDef, ast.keyword)):
            told = [getattr(node, name, None) for name in ("id", "attr", "arg", "name")]
            with self.subTest(where=where):
                self.assertFalse(BARRED_WORDS & set(told))
        for path, text in sources():
            self.assertNotRegex(text, r"_wall|_WallAttr|dataclass|overload|contextmanager|\(type\)|Meta|metaclass=")

    def test_no_barred_statements_and_signs(self):
        for _, where in nodes(BARRED):
            self.fail(where)

    def test_module_level(self):
        for path, tree in trees():
            for node in tree.body:
                with self.subTest(where=f"{path.name}:{node.lineno}"):
                    self.assertIsInstance(
                        node, (ast.Expr, ast.ImportFrom, ast.FunctionDef, ast.ClassDef, ast.Assign)
                    )
                    if isinstance(node, ast.Expr):
                        self.assertIs(node, tree.body[0])

    def test_builtins(self):
        for node, where in nodes(ast.Name):
            if node.id in vars(builtins):
                with self.subTest(where=where, name=node.id):
                    self.assertIn(node.id, CALLABLE)
                    self.assertIsInstance(node.ctx, ast.Load)

    def test_names(self):
        for node, where in nodes((ast.FunctionDef, ast.ClassDef)):
            with self.subTest(where=where):
                self.assertTrue(node.name in SPECIAL or not node.name.startswith("__"))
                self.assertNotIn(node.name, vars(builtins))
        for node, where in nodes(ast.arg):
            with self.subTest(where=where):
                self.assertNotIn(node.arg, vars(builtins))

    def test_no_local_name_hides_an_import_or_a_class(self):
        for path, tree in trees():
            barred = {alias.name for node in ast.walk(tree) if isinstance(node, ast.ImportFrom) for alias in node.names}
            barred |= {node.name for node in tree.body if isinstance(node, ast.ClassDef)}
            for node in ast.walk(tree):
                name = node.id if isinstance(node, ast.Name) and isinstance(node.ctx, ast.Store) else getattr(node, "arg", None)
                with self.subTest(path=path.name, line=getattr(node, "lineno", 0)):
                    self.assertNotIn(name, barred)

    def test_no_two_files_import_from_each_other(self):
        needs = {}
        for path, tree in trees():
            name = ".".join(path.relative_to(PACKAGE.parent).with_suffix("").parts)
            needs[name] = {node.module for node in ast.walk(tree) if isinstance(node, ast.ImportFrom)}
        while needs:
            free = {name for name in needs if not needs[name] & set(needs)}
            self.assertTrue(free, sorted(needs))
            needs = {name: needs[name] for name in needs if name not in free}

    def test_methods_of_builtin_values(self):
        for node, where in nodes(ast.Attribute):
            with self.subTest(where=where):
                self.assertNotIn(node.attr, ("sort", "format", "bit_count", "args", "decode", "encode"))

    def test_reversed_takes_no_web(self):
        for node, where in nodes(ast.Call):
            if isinstance(node.func, ast.Name):
                with self.subTest(where=where):
                    self.assertNotIn(node.func.id, ("reversed", "product", "combinations", "permutations"))

    def test_comprehensions_in_others_have_names_of_their_own(self):
        for function, where in nodes(ast.FunctionDef):
            assigned = {
                node.id for loop in ast.walk(function) if isinstance(loop, (ast.For, ast.Assign))
                for target in (loop.targets if isinstance(loop, ast.Assign) else [loop.target])
                for node in ast.walk(target) if isinstance(node, ast.Name)
            } | {node.arg for node in ast.walk(function) if isinstance(node, ast.arg)}
            for outer in [node for node in ast.walk(function) if isinstance(node, COMPREHENSIONS)]:
                for inner in [node for node in ast.walk(outer) if isinstance(node, COMPREHENSIONS) and node is not outer]:
                    with self.subTest(where=where, line=inner.lineno):
                        self.assertFalse(targets(inner) & (assigned | targets(outer)))

    def test_no_generator_expression_where_a_list_must_stand(self):
        for node, where in nodes(ast.Call):
            if isinstance(node.func, ast.Name) and node.func.id in TAKE_LISTS:
                with self.subTest(where=where):
                    self.assertFalse([item for item in node.args if isinstance(item, ast.GeneratorExp)])

    def test_strings(self):
        for node, where in nodes(ast.Constant):
            with self.subTest(where=where):
                self.assertNotIsInstance(node.value, (float, complex))
                if isinstance(node.value, str):
                    self.assertNotIn("%", node.value)

    def test_is_stands_beside_none_and_booleans(self):
        for node, where in nodes(ast.Compare):
            for sign, side in zip(node.ops, node.comparators):
                if isinstance(sign, (ast.Is, ast.IsNot)):
                    with self.subTest(where=where):
                        self.assertIn(getattr(side, "value", 0), (None, True, False))

    def test_no_docstring_is_missing(self):
        for path, tree in trees():
            for node in [tree, *tree.body]:
                if isinstance(node, (ast.Module, ast.ClassDef, ast.FunctionDef)):
                    if not getattr(node, "name", "module").startswith("_"):
                        with self.subTest(path=path.name, name=getattr(node, "name", "module")):
                            self.assertTrue(ast.get_docstring(node))


if __name__ == "__main__":
    unittest.main()
