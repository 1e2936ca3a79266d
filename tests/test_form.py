"""The package's files keep to the small part of Python that they are written in."""

import ast
import builtins
import pathlib
import re
import unittest

PACKAGE = pathlib.Path(__file__).resolve().parent.parent / "markstretch"

NODES = """
Module Import ImportFrom alias FunctionDef ClassDef arguments arg Expr Assign AugAssign If While For Return Break
Continue Pass Raise Try ExceptHandler BoolOp And Or Not UnaryOp USub BinOp Add Sub Mult FloorDiv Mod Compare Eq NotEq
Lt LtE Gt GtE Is IsNot In NotIn Call keyword Attribute Subscript Slice Name Load Store Constant List Tuple Dict IfExp
ListComp comprehension JoinedStr FormattedValue Lambda
""".split()

BUILTINS = """
len range enumerate zip min max sum abs sorted reversed int str bool list tuple dict isinstance ord repr any all divmod
""".split()

METHODS = """
append clear copy count endswith extend find get index insert isalnum isalpha isdigit islower isspace isupper items
join keys ljust lower lstrip partition pop remove replace reverse rfind rjust rpartition rsplit rstrip setdefault split
splitlines startswith strip update upper values zfill bit_length
""".split()

WORDS = """
type typing typing_extensions enum Enum IntEnum StrEnum Flag IntFlag Generic Protocol ABC ABCMeta namedtuple NamedTuple
TypedDict TYPE_CHECKING abstractmethod
""".split()


def sources():
    return {path.name: path.read_text(encoding="utf-8") for path in sorted(PACKAGE.glob("*.py"))}


def trees():
    return {name: ast.parse(source) for name, source in sources().items()}


def attributes_own_to(tree):
    """The methods and the values that the classes of a file have."""
    methods = set()
    values = set()
    for node in ast.walk(tree):
        if isinstance(node, ast.ClassDef):
            methods |= {one.name for one in node.body if isinstance(one, ast.FunctionDef)}
        if isinstance(node, ast.Attribute) and isinstance(node.ctx, ast.Store):
            values.add(node.attr)
    return methods, values


def names_bound_in(tree):
    bound = set()
    for node in ast.walk(tree):
        if isinstance(node, ast.Name) and isinstance(node.ctx, ast.Store):
            bound.add(node.id)
        if isinstance(node, ast.arg):
            bound.add(node.arg)
        if isinstance(node, (ast.FunctionDef, ast.ClassDef)):
            bound.add(node.name)
        if isinstance(node, ast.alias):
            bound.add(node.asname or node.name)
    return bound


def names_at_the_top_of(tree):
    """The functions, classes and values that a file defines itself."""
    defined = {node.name for node in tree.body if isinstance(node, (ast.FunctionDef, ast.ClassDef))}
    return defined | {node.targets[0].id for node in tree.body if isinstance(node, ast.Assign)}


class Form(unittest.TestCase):
    def test_files(self):
        names = [path.name for path in PACKAGE.iterdir() if path.name != "__pycache__"]
        for name in names:
            self.assertRegex(name, r"\A([a-z][a-z0-9_]*|__init__)\.py\Z")
        self.assertIn("__init__.py", names)

    def test_signs_and_sizes(self):
        for name, source in sources().items():
            self.assertRegex(source, r"\A[ -~\n]*\Z", name)
            lines = source.splitlines()
            self.assertLessEqual(len(lines), 400, name)
            self.assertLessEqual(max(map(len, lines)), 120, name)

    def test_functions_are_small(self):
        for name, tree in trees().items():
            for node in ast.walk(tree):
                if isinstance(node, ast.FunctionDef):
                    self.assertLessEqual(node.end_lineno - node.lineno + 1, 40, (name, node.name))
                    self.assertEqual(node.decorator_list, [], (name, node.name))

    def test_words(self):
        for name, source in sources().items():
            self.assertEqual(set(re.findall(r"\w+", source)) & set(WORDS), set(), name)

    def test_statements_and_expressions(self):
        for name, tree in trees().items():
            for node in ast.walk(tree):
                self.assertIn(node.__class__.__name__, NODES, (name, getattr(node, "lineno", 0)))
                if isinstance(node, ast.Assign):
                    self.assertEqual(len(node.targets), 1, (name, node.lineno))
                if isinstance(node, (ast.For, ast.While)):
                    self.assertEqual(node.orelse, [], (name, node.lineno))

    def test_imports(self):
        for name, tree in trees().items():
            for node in ast.walk(tree):
                self.assertNotIsInstance(node, ast.Import, name)
                if isinstance(node, ast.ImportFrom):
                    self.assertRegex(node.module, r"\Amarkstretch\.[a-z]+\Z", name)

    def test_imports_are_from_the_file_that_defines_the_name_and_never_round(self):
        drawn = {}
        for name, tree in trees().items():
            drawn[name] = set()
            for node in [node for node in ast.walk(tree) if isinstance(node, ast.ImportFrom)]:
                source = node.module.split(".")[1] + ".py"
                drawn[name].add(source)
                for one in node.names:
                    self.assertIn(one.name, names_at_the_top_of(trees()[source]), name)
        while drawn:
            free = [name for name in drawn if not drawn[name] & set(drawn)]
            self.assertNotEqual(free, [], "files draw from one another")
            drawn.pop(free[0])

    def test_no_parameter_or_local_is_called_like_an_import_or_a_class(self):
        for name, tree in trees().items():
            taken = {one.name for node in tree.body if isinstance(node, ast.ImportFrom) for one in node.names}
            taken |= {node.name for node in tree.body if isinstance(node, ast.ClassDef)}
            for node in ast.walk(tree):
                if isinstance(node, ast.FunctionDef):
                    self.assertEqual(names_bound_in(node) & taken, set(), (name, node.name))

    def test_names(self):
        for name, tree in trees().items():
            bound = names_bound_in(tree)
            for one in bound - {"__init__"}:
                self.assertNotIn(one, dir(builtins), name)
                self.assertRegex(one, r"\A[A-Za-z][A-Za-z0-9_]*\Z", name)
            used = {node.id for node in ast.walk(tree) if isinstance(node, ast.Name)}
            self.assertEqual(used - bound - set(BUILTINS), set(), name)

    def test_methods_and_values(self):
        own_methods = set()
        own_values = set()
        for tree in trees().values():
            methods, values = attributes_own_to(tree)
            own_methods |= methods
            own_values |= values
        self.assertEqual(own_methods & own_values, set())
        python_own = {one for kind in (str, int, list, dict, set, bytes) for one in dir(kind)}
        self.assertEqual((own_methods | own_values) & python_own, {"__init__"})
        for name, tree in trees().items():
            used = {node.attr for node in ast.walk(tree) if isinstance(node, ast.Attribute)}
            self.assertEqual(used - own_methods - own_values - set(METHODS), set(), name)
