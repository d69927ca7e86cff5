"""What of LANGUAGE.md can be seen in the source: not all of it, but what is broken most easily."""

import ast
import builtins
import pathlib
import re
import unittest

PACKAGE = pathlib.Path(__file__).resolve().parent.parent / "shortkeys"
FILES = sorted(PACKAGE.glob("*.py"))

BUILTINS = set("""len range enumerate zip min max sum abs sorted reversed int str bool list tuple dict set isinstance
    ord repr any all divmod Exception ValueError TypeError KeyError IndexError LookupError ZeroDivisionError
    ArithmeticError OverflowError RuntimeError NotImplementedError AttributeError StopIteration NotImplemented iter
    next super property staticmethod classmethod""".split())
METHODS = set("""append clear copy count endswith extend find get index insert isalnum isalpha isdigit islower isspace
    isupper items join keys ljust lower lstrip partition pop remove replace reverse rfind rjust rpartition rsplit rstrip
    setdefault split splitlines startswith strip update upper values zfill bit_length isascii isdecimal""".split())
DOUBLES = set("""__init__ __eq__ __repr__ __str__ __len__ __enter__ __exit__ __call__ __iter__ __lt__ __le__ __gt__
    __ge__ __ne__ __add__ __sub__ __mul__ __floordiv__ __mod__ __pow__ __and__ __or__ __xor__ __radd__ __rsub__
    __rmul__ __neg__ __pos__ __invert__ __abs__ __bool__ __contains__ __getitem__ __setitem__""".split())
WORDS = """type typing typing_extensions enum Enum IntEnum StrEnum Flag IntFlag Generic Protocol ABC ABCMeta namedtuple
    NamedTuple TypedDict TYPE_CHECKING abstractmethod""".split()
NEVER = """register mro elements open input law version_info with_traceback add_note attrgetter builtins compile dir
    eval exec exit gc getattr globals hasattr help id
    importlib license locals os quit setattr vars sys""".split()
STATEMENTS = (
    ast.Assign, ast.AugAssign, ast.If, ast.While, ast.For, ast.Return, ast.Break, ast.Continue, ast.Pass, ast.Raise,
    ast.Assert, ast.Delete, ast.Expr, ast.Try, ast.FunctionDef, ast.ClassDef, ast.ImportFrom, ast.Yield, ast.With)


def tree_of(path):
    return ast.parse(path.read_text(encoding="utf-8"))


def nodes(*kinds):
    """Yield the file name and each node of these kinds in the package."""
    for path in FILES:
        for node in ast.walk(tree_of(path)):
            if isinstance(node, kinds):
                yield path.name, node


def own_names():
    """Return the names of all functions, methods and classes of the package."""
    return {node.name for name, node in nodes(ast.FunctionDef, ast.ClassDef)}


def bound_names(node):
    """Return the names to which a node gives a meaning."""
    if isinstance(node, ast.Name):
        return [] if isinstance(node.ctx, ast.Load) else [node.id]
    if isinstance(node, ast.arg):
        return [node.arg]
    return [alias.asname or alias.name for alias in node.names] if isinstance(node, ast.ImportFrom) else [node.name]


class FilesTest(unittest.TestCase):
    def test_the_folder_holds_python_files_alone(self):
        for path in PACKAGE.iterdir():
            if path.name != "__pycache__":
                self.assertRegex(path.name, r"^[a-z_]+\.py$")

    def test_there_is_no_more_than_the_interface_and_one_helper(self):
        listed = {"__init__.py", "errors.py", "recipes.py", "keys.py", "plans.py", "values.py", "keeping.py",
                  "judging.py", "cheapest.py", "mending.py", "alike.py", "houses.py", "texts.py"}
        self.assertEqual([path.name for path in FILES if path.name not in listed], ["names.py"])

    def test_sizes_and_characters(self):
        for path in FILES:
            text = path.read_text(encoding="utf-8")
            self.assertTrue(all(char == "\n" or " " <= char <= "~" for char in text), path.name)
            self.assertLessEqual(len(text.splitlines()), 399, path.name)
            self.assertLessEqual(max(len(row) for row in text.splitlines()), 120, path.name)
        for name, node in nodes(ast.FunctionDef):
            self.assertLessEqual(node.end_lineno - node.lineno + 1, 40, (name, node.name))

    def test_words_that_do_not_occur(self):
        for path in FILES:
            text = path.read_text(encoding="utf-8")
            for word in WORDS:
                self.assertIsNone(re.search(rf"\b{word}\b", text), (path.name, word))
            for word in ("dataclass", "overload", "contextmanager"):
                self.assertNotIn(word, text, path.name)


class NodesTest(unittest.TestCase):
    def test_imports(self):
        for path in FILES:
            for node in ast.walk(tree_of(path)):
                self.assertNotIsInstance(node, ast.Import, path.name)
                if isinstance(node, ast.ImportFrom):
                    self.assertEqual((node.level, node.module.split(".")[0]), (0, "shortkeys"), path.name)
                    source = tree_of(PACKAGE / (node.module.split(".")[1] + ".py"))
                    there = [got for row in source.body if isinstance(row, (ast.FunctionDef, ast.ClassDef))
                             for got in bound_names(row)]
                    there += [got for row in source.body if isinstance(row, ast.Assign)
                              for target in row.targets for got in bound_names(target)]
                    for alias in node.names:
                        self.assertIn(alias.name, there, path.name)

    def test_names(self):
        for name, node in nodes(ast.Name, ast.arg, ast.FunctionDef, ast.ClassDef, ast.ImportFrom):
            for bound in bound_names(node):
                if bound not in DOUBLES:
                    self.assertRegex(bound, r"^[A-Za-z][A-Za-z0-9_]*$", name)
                self.assertNotIn(bound, BUILTINS | set(NEVER), name)
                self.assertNotIn(bound, dir(builtins), name)

    def test_builtins_and_methods(self):
        own = own_names()
        for name, node in nodes(ast.Call):
            if isinstance(node.func, ast.Attribute):
                self.assertIn(node.func.attr, METHODS | own | {"__init__"}, name)
        for name, node in nodes(ast.Name):
            if node.id in dir(builtins):
                self.assertIn(node.id, BUILTINS, name)

    def test_statements(self):
        for name, node in nodes(ast.stmt):
            self.assertIsInstance(node, STATEMENTS, name)
        for name, node in nodes(ast.Global, ast.AsyncFunctionDef, ast.Await, ast.Div, ast.AnnAssign):
            self.fail((name, node))
        for name, node in nodes(ast.Constant):
            self.assertNotIsInstance(node.value, (float, complex), name)

    def test_powers_have_literal_exponents(self):
        for name, node in nodes(ast.BinOp):
            if isinstance(node.op, ast.Pow):
                self.assertIsInstance(node.right, ast.Constant, name)

    def test_is_only_with_none_and_booleans(self):
        for name, node in nodes(ast.Compare):
            for op, right in zip(node.ops, node.comparators):
                if isinstance(op, (ast.Is, ast.IsNot)):
                    self.assertIsInstance(right, ast.Constant, name)
                    self.assertIn(right.value, (None, True, False), name)

    def test_no_generators_beside_equality(self):
        for name, node in nodes(ast.GeneratorExp):
            self.fail((name, node.lineno))

    def test_methods_and_attributes_have_other_names(self):
        methods = {row.name for name, node in nodes(ast.ClassDef) for row in node.body
                   if isinstance(row, ast.FunctionDef)}
        for name, node in nodes(ast.Attribute):
            if isinstance(node.ctx, ast.Store):
                self.assertNotIn(node.attr, methods, name)

    def test_attributes_that_are_read_are_assigned_or_defined(self):
        known = own_names() | METHODS | {node.attr for name, node in nodes(ast.Attribute)
                                         if isinstance(node.ctx, ast.Store)}
        for name, node in nodes(ast.Attribute):
            if isinstance(node.ctx, ast.Load) and not node.attr.startswith("__"):
                self.assertIn(node.attr, known, name)

    def test_no_local_name_is_that_of_a_class_or_an_import(self):
        for path in FILES:
            taken = {got for row in ast.walk(tree_of(path)) if isinstance(row, (ast.ClassDef, ast.ImportFrom))
                     for got in bound_names(row)}
            for node in ast.walk(tree_of(path)):
                if isinstance(node, (ast.Name, ast.arg)):
                    self.assertFalse(taken & set(bound_names(node)), path.name)

    def test_what_is_ordered_is_plainly_numbers(self):
        # Keys have an order that is not total, so nothing that may hold keys is sorted.
        for name, node in nodes(ast.Call):
            if isinstance(node.func, ast.Attribute):
                self.assertNotEqual(node.func.attr, "sort", name)
            elif isinstance(node.func, ast.Name) and node.func.id in ("sorted", "min", "max"):
                self.assertIsInstance(node.args[0], ast.ListComp, name)
                inner = node.args[0].elt
                self.assertIsInstance(inner, ast.Call, name)
                self.assertIn(inner.func.id, ("len", "int", "ord", "str", "repr"), name)

    def test_double_underscore_methods(self):
        for name, node in nodes(ast.FunctionDef):
            if node.name.startswith("__"):
                self.assertIn(node.name, DOUBLES, name)


if __name__ == "__main__":
    unittest.main()
