"""The form of the package: the rules of LANGUAGE.md that can be looked up in the files without running them."""

import ast
import builtins
import pathlib
import re
import unittest

PACKAGE = pathlib.Path(__file__).resolve().parent.parent / "mapdye"
FILES = sorted(PACKAGE.rglob("*.py"))

STATEMENTS = (
    ast.Assign, ast.AugAssign, ast.AnnAssign, ast.If, ast.While, ast.For, ast.Return, ast.Break, ast.Continue,
    ast.Pass, ast.Raise, ast.Assert, ast.Delete, ast.Try, ast.Expr, ast.FunctionDef, ast.ClassDef, ast.ImportFrom,
)
BARRED = (
    ast.GeneratorExp, ast.NamedExpr, ast.Div, ast.MatMult, ast.Await, ast.Yield, ast.YieldFrom,
)
BUILTINS = """
    len range enumerate zip min max sum abs sorted reversed int str bool bytes list tuple dict set frozenset isinstance
    ord repr any all divmod Exception ValueError TypeError KeyError IndexError LookupError ZeroDivisionError
    ArithmeticError OverflowError RuntimeError NotImplementedError AttributeError StopIteration
""".split()
METHODS = """
    append clear copy count endswith extend find get index insert isalnum isalpha isdigit islower isspace isupper items
    join keys ljust lower lstrip partition pop remove replace reverse rfind rjust rpartition rsplit rstrip setdefault
    split splitlines startswith strip update upper values zfill bit_length title capitalize swapcase casefold center
    expandtabs removeprefix removesuffix rindex isascii isdecimal isnumeric istitle isidentifier isprintable encode
    decode hex fromhex to_bytes from_bytes sort add discard
""".split()
DOUBLE_METHODS = ("__init__", "__eq__", "__repr__", "__str__", "__len__")
WORDS = """
    type typing typing_extensions enum Enum IntEnum StrEnum Flag IntFlag Generic Protocol ABC ABCMeta namedtuple
    NamedTuple TypedDict TYPE_CHECKING abstractmethod
""".split()
NAMES = """
    register mro elements open input version_info with_traceback add_note attrgetter breakpoint builtins compile
    copyright credits delattr dir eval exec exit gc getattr globals hasattr help id importlib license locals
    methodcaller os quit setattr super type vars sys
""".split()


def functions_in(tree):
    return [node for node in ast.walk(tree) if isinstance(node, ast.FunctionDef)]


def classes_in(tree):
    return [node for node in ast.walk(tree) if isinstance(node, ast.ClassDef)]


def bound_names(tree):
    """All names that the file gives to something."""
    names = []
    for node in ast.walk(tree):
        if isinstance(node, ast.Name) and isinstance(node.ctx, ast.Store):
            names.append(node.id)
        elif isinstance(node, (ast.FunctionDef, ast.ClassDef)):
            names.append(node.name)
        elif isinstance(node, ast.arg):
            names.append(node.arg)
        elif isinstance(node, ast.ExceptHandler) and node.name:
            names.append(node.name)
        elif isinstance(node, ast.alias):
            names.append(node.asname or node.name)
        elif isinstance(node, ast.Attribute) and isinstance(node.ctx, ast.Store):
            names.append(node.attr)
    return names


def defined_names(tree):
    """The names that the file defines at module level, imports left out."""
    names = [node.name for node in tree.body if isinstance(node, (ast.FunctionDef, ast.ClassDef))]
    return names + [node.targets[0].id for node in tree.body if isinstance(node, ast.Assign)]


def is_set(node):
    called = isinstance(node, ast.Call) and isinstance(node.func, ast.Name) and node.func.id in ("set", "frozenset")
    return called or isinstance(node, (ast.Set, ast.SetComp))


def used_as_a_set(node, parents):
    """Whether a set, or the name of a stored one, stands where one may."""
    above = parents[node]
    if isinstance(above, ast.Compare):
        return node in above.comparators and isinstance(above.ops[0], (ast.In, ast.NotIn))
    if isinstance(above, ast.Call):
        return isinstance(above.func, ast.Name) and above.func.id in ("len", "sorted")
    if isinstance(above, ast.Attribute):
        return above.attr in ("add", "discard") and isinstance(parents[parents[above]], ast.Expr)
    return isinstance(above, (ast.If, ast.While)) and node == above.test


def local_names(function):
    """The parameters and variables of a function."""
    names = [node.arg for node in ast.walk(function) if isinstance(node, ast.arg)]
    return names + [
        node.id for node in ast.walk(function) if isinstance(node, ast.Name) and isinstance(node.ctx, ast.Store)
    ]


class Files(unittest.TestCase):
    def test_the_folder_has_only_files_of_the_program(self):
        self.assertTrue((PACKAGE / "__init__.py").is_file())
        for path in PACKAGE.rglob("*"):
            if "__pycache__" not in path.parts:
                self.assertRegex(path.name, r"\A[a-z0-9_]+(\.py)?\Z")

    def test_signs_and_sizes(self):
        for path in FILES:
            text = path.read_bytes().decode("ascii")
            lines = text.split("\n")
            self.assertRegex(text, r"\A[ -~\n]*\Z", path)
            self.assertLessEqual(len(lines), 401, path)
            self.assertLessEqual(max(len(line) for line in lines), 120, path)

    def test_words_that_do_not_occur(self):
        for path in FILES:
            text = path.read_text()
            for word in WORDS:
                self.assertIsNone(re.search(rf"\b{word}\b", text), (path, word))
            self.assertNotRegex(text, "dataclass|overload|contextmanager")


class Trees(unittest.TestCase):
    def setUp(self):
        self.trees = [(path, ast.parse(path.read_text())) for path in FILES]
        self.classes = [node for _, tree in self.trees for node in classes_in(tree)]

    def nodes(self, kind):
        return [(f"{path.name}:{node.lineno}", node) for path, tree in self.trees for node in ast.walk(tree)
                if isinstance(node, kind)]

    def test_statements_and_expressions(self):
        for where, node in self.nodes(ast.stmt):
            self.assertIsInstance(node, STATEMENTS, where)
        for path, tree in self.trees:
            for node in ast.walk(tree):
                self.assertNotIsInstance(node, BARRED, path)
        for where, node in self.nodes((ast.For, ast.While)):
            self.assertEqual(node.orelse, [], where)

    def test_module_level(self):
        for path, tree in self.trees:
            for node in tree.body:
                docstring = isinstance(node, ast.Expr) and isinstance(node.value, ast.Constant)
                allowed = (ast.ImportFrom, ast.FunctionDef, ast.ClassDef, ast.Assign)
                self.assertTrue(docstring or isinstance(node, allowed), (path, node.lineno))
            names = [node.name for node in tree.body if isinstance(node, (ast.FunctionDef, ast.ClassDef))]
            names += [alias.name for node in tree.body if isinstance(node, ast.ImportFrom) for alias in node.names]
            names += [node.targets[0].id for node in tree.body if isinstance(node, ast.Assign)]
            self.assertEqual(len(names), len(set(names)), path)

    def test_imports(self):
        for where, node in self.nodes(ast.ImportFrom):
            self.assertEqual(node.level, 0, where)
            self.assertRegex(node.module, r"\Amapdye\.", where)
            self.assertNotIn("*", [alias.name for alias in node.names], where)
            source = dict(self.trees)[PACKAGE.joinpath(*node.module.split(".")[1:]).with_suffix(".py")]
            for alias in node.names:
                self.assertIn(alias.name, defined_names(source), where)

    def test_no_files_import_from_each_other(self):
        left = {
            path.stem: {node.module.split(".")[1] for node in tree.body if isinstance(node, ast.ImportFrom)}
            for path, tree in self.trees
        }
        while left:
            free = [name for name, wanted in left.items() if not wanted & set(left)]
            self.assertNotEqual(free, [], left)
            for name in free:
                del left[name]

    def test_functions(self):
        for where, node in self.nodes(ast.FunctionDef):
            self.assertLessEqual(node.end_lineno - node.lineno + 1, 40, where)
            self.assertEqual(node.decorator_list, [], where)
            self.assertIsNone(node.args.vararg, where)
            self.assertIsNone(node.args.kwarg, where)
            self.assertEqual(node.args.posonlyargs, [], where)

    def test_classes(self):
        for node in self.classes:
            self.assertLessEqual(len(node.bases), 1, node.name)
            self.assertEqual(node.decorator_list + node.keywords, [], node.name)
            for held in node.body:
                docstring = isinstance(held, ast.Expr) and isinstance(held.value, ast.Constant)
                self.assertTrue(docstring or isinstance(held, (ast.FunctionDef, ast.Pass)), node.name)

    def test_no_name_is_a_method_and_an_attribute(self):
        methods = {held.name for node in self.classes for held in node.body if isinstance(held, ast.FunctionDef)}
        stored = {node.attr for _, node in self.nodes(ast.Attribute) if isinstance(node.ctx, ast.Store)}
        self.assertEqual(methods & stored, set())
        for where, node in self.nodes(ast.Attribute):
            known = node.attr in methods or node.attr in stored or node.attr in METHODS
            self.assertTrue(known, (where, node.attr))

    def test_names(self):
        for path, tree in self.trees:
            for name in bound_names(tree):
                if name not in DOUBLE_METHODS:
                    self.assertRegex(name, r"\A[A-Za-z][A-Za-z0-9_]*\Z", path)
                self.assertNotIn(name, NAMES, path)
            outer = [node.name for node in classes_in(tree)]
            outer += [alias.name for node in tree.body if isinstance(node, ast.ImportFrom) for alias in node.names]
            for function in functions_in(tree):
                for name in local_names(function):
                    self.assertNotIn(name, outer, path)
                    self.assertFalse(hasattr(builtins, name), (path, name))

    def test_builtins(self):
        for path, tree in self.trees:
            bound = bound_names(tree)
            for node in ast.walk(tree):
                if isinstance(node, ast.Name) and isinstance(node.ctx, ast.Load) and node.id not in bound:
                    self.assertIn(node.id, BUILTINS, (path, node.lineno))

    def test_sets(self):
        for path, tree in self.trees:
            parents = {held: node for node in ast.walk(tree) for held in ast.iter_child_nodes(node)}
            for function in functions_in(tree):
                assigned = [node for node in ast.walk(function) if isinstance(node, ast.Assign)]
                stored = [node.targets[0].id for node in assigned if is_set(node.value)]
                self.assertEqual(len(stored), len(set(stored)), path)
                for node in ast.walk(function):
                    if isinstance(node, ast.Name) and node.id in stored and isinstance(node.ctx, ast.Load):
                        self.assertTrue(used_as_a_set(node, parents), (path, node.lineno))
            for node in ast.walk(tree):
                if is_set(node) and not isinstance(parents[node], ast.Assign):
                    self.assertTrue(used_as_a_set(node, parents), (path, node.lineno))

    def test_iterated_at_once(self):
        for path, tree in self.trees:
            parents = {held: node for node in ast.walk(tree) for held in ast.iter_child_nodes(node)}
            for node in ast.walk(tree):
                name = getattr(getattr(node, "func", None), "id", None)
                if name in ("zip", "enumerate", "reversed", "range"):
                    above = parents[node]
                    looped = isinstance(above, (ast.For, ast.comprehension)) and node == above.iter
                    called = isinstance(above, ast.Call) and above.func.id in ("list", "tuple", "dict", "sorted", "zip")
                    self.assertTrue(looped or called, (path, node.lineno))

    def test_is_only_with_none_true_and_false(self):
        for where, node in self.nodes(ast.Compare):
            for sign, right in zip(node.ops, node.comparators):
                if isinstance(sign, (ast.Is, ast.IsNot)):
                    self.assertIsInstance(right, ast.Constant, where)
                    self.assertTrue(right.value in (None, True, False), where)

    def test_numbers_and_strings(self):
        for where, node in self.nodes(ast.Constant):
            self.assertNotIsInstance(node.value, (float, complex), where)
            if isinstance(node.value, str):
                self.assertNotIn("%", node.value, where)
        for where, node in self.nodes(ast.FormattedValue):
            self.assertIsNone(node.format_spec, where)
        for where, node in self.nodes(ast.BinOp):
            if isinstance(node.op, ast.Pow):
                self.assertIsInstance(node.right, ast.Constant, where)

    def test_errors_are_caught_and_raised_by_name(self):
        for where, node in self.nodes(ast.ExceptHandler):
            self.assertIsNotNone(node.type, where)
            caught = [each.id for each in getattr(node.type, "elts", [node.type])]
            self.assertFalse({"Exception", "TypeError"} & set(caught), where)
        for where, node in self.nodes(ast.Raise):
            if node.exc is not None:
                self.assertIsInstance(node.exc, ast.Call, where)
                self.assertIsInstance(node.exc.func, ast.Name, where)


if __name__ == "__main__":
    unittest.main()
