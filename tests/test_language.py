"""The package keeps to its small part of Python: what of those rules can be seen in the files."""

import ast
import builtins
import pathlib
import re
import unittest

PACKAGE = pathlib.Path(__file__).resolve().parent.parent / "inkpages"
FILES = sorted(PACKAGE.rglob("*.py"))

NODES = {
    "Module", "ImportFrom", "alias", "FunctionDef", "ClassDef", "arguments", "arg", "Lambda",
    "Assign", "AugAssign", "If", "While", "For", "Return", "Break", "Continue", "Pass", "Raise", "Try", "ExceptHandler",
    "Expr", "Constant", "Name", "Attribute", "Subscript", "Slice", "Call", "keyword", "List", "Tuple", "Dict", "Set",
    "ListComp", "comprehension", "JoinedStr", "FormattedValue", "BinOp", "UnaryOp", "BoolOp", "Compare", "IfExp",
    "Add", "Sub", "Mult", "FloorDiv", "Mod", "Pow", "BitAnd", "BitOr", "BitXor", "LShift", "RShift", "Invert", "USub",
    "UAdd", "Not", "And", "Or", "Eq", "NotEq", "Lt", "LtE", "Gt", "GtE", "In", "NotIn", "Is", "IsNot", "Load", "Store",
}
OWN_NAMES = set(
    "len range enumerate zip min max sum abs sorted reversed int str bool list tuple dict set frozenset isinstance ord"
    " repr any all divmod Exception ValueError TypeError KeyError IndexError LookupError ZeroDivisionError"
    " ArithmeticError OverflowError RuntimeError NotImplementedError AttributeError StopIteration".split()
)
METHODS = set(
    "append clear copy count endswith extend find get index insert isalnum isalpha isdigit islower isspace isupper"
    " items join keys ljust lower lstrip partition pop remove replace reverse rfind rjust rpartition rsplit rstrip"
    " setdefault split splitlines startswith strip update upper values zfill bit_length".split()
)
UNUSED = set(
    "register mro elements open input version_info with_traceback add_note attrgetter breakpoint builtins compile"
    " copyright credits delattr dir eval exec exit gc getattr globals hasattr help id importlib license locals"
    " methodcaller os quit setattr super vars sys".split()
)
WORDS = re.compile(
    r"\b(type|typing|typing_extensions|enum|Enum|IntEnum|StrEnum|Flag|IntFlag|Generic|Protocol|ABC|ABCMeta|namedtuple"
    r"|NamedTuple|TypedDict|TYPE_CHECKING|abstractmethod)\b|dataclass|overload|contextmanager"
)
WALKED = {"zip", "enumerate", "reversed", "range", "items", "keys", "values"}
WALKERS = {"list", "tuple", "dict", "sorted", "sum", "any", "all", "enumerate", "zip", "min", "max", "join"}
PLAIN = (ast.Constant, ast.UnaryOp, ast.USub, ast.Tuple, ast.List, ast.Dict, ast.Name, ast.Load)
DUNDERS = {"__init__", "__eq__", "__repr__", "__str__", "__len__"}


def trees():
    return [(file, ast.parse(file.read_text("utf-8"))) for file in FILES]


def nodes(tree, *kinds):
    return [node for node in ast.walk(tree) if isinstance(node, kinds)]


def called_name(node):
    return node.func.id if isinstance(node.func, ast.Name) else getattr(node.func, "attr", None)


def bound_names(function):
    names = [arg.arg for arg in nodes(function, ast.arg)]
    names += [node.id for node in nodes(function, ast.Name) if isinstance(node.ctx, ast.Store)]
    return names + [node.name for node in nodes(function, ast.ExceptHandler) if node.name]


def value_names(tree):
    return {node.attr for node in nodes(tree, ast.Attribute) if isinstance(node.ctx, ast.Store)}


def method_names(tree):
    return {part.name for node in nodes(tree, ast.ClassDef) for part in node.body if isinstance(part, ast.FunctionDef)}


class TestFiles(unittest.TestCase):
    def test_only_plain_files(self):
        self.assertTrue(FILES)
        for file in PACKAGE.rglob("*"):
            if file.name != "__pycache__" and file.suffix != ".pyc":
                self.assertRegex(file.name, r"^(__init__|__main__|[a-z][a-z0-9_]*)\.py$")

    def test_size_and_signs(self):
        for file in FILES:
            lines = file.read_text("utf-8").split("\n")
            self.assertLessEqual(len(lines), 400, file)
            for line in lines:
                self.assertRegex(line, r"^[ -~]{0,120}$", file)
                self.assertIsNone(WORDS.search(line), (file, line))

    def test_functions_are_short(self):
        for file, tree in trees():
            for node in nodes(tree, ast.FunctionDef):
                self.assertLessEqual(node.end_lineno - node.lineno + 1, 40, (file, node.name))


class TestForms(unittest.TestCase):
    def test_kinds_of_nodes(self):
        for file, tree in trees():
            for node in ast.walk(tree):
                self.assertIn(type(node).__name__, NODES, (file, getattr(node, "lineno", None)))

    def test_constants(self):
        for file, tree in trees():
            for node in nodes(tree, ast.Constant):
                self.assertIsInstance(node.value, (int, str, bool, type(None)), (file, node.lineno))
                if isinstance(node.value, str):
                    self.assertNotIn("%", node.value, (file, node.lineno))

    def test_statements(self):
        for file, tree in trees():
            for node in nodes(tree, ast.Expr):
                docstring = node is tree.body[0] and isinstance(node.value, ast.Constant)
                self.assertTrue(docstring or isinstance(node.value, ast.Call), (file, node.lineno))
            for node in nodes(tree, ast.Assign):
                self.assertEqual(len(node.targets), 1, (file, node.lineno))
                self.assertNotIsInstance(node.targets[0], (ast.Tuple, ast.List), (file, node.lineno))
            for node in nodes(tree, ast.For, ast.While):
                self.assertEqual(node.orelse, [], (file, node.lineno))
            for node in nodes(tree, ast.Try):
                self.assertEqual(node.finalbody, [], (file, node.lineno))
            for node in nodes(tree, ast.ListComp):
                self.assertEqual(len(node.generators), 1, (file, node.lineno))

    def test_functions_and_classes(self):
        for file, tree in trees():
            for node in nodes(tree, ast.FunctionDef):
                plain = node.args.vararg is None and node.args.kwarg is None and not node.args.kwonlyargs
                self.assertTrue(plain and not node.decorator_list and node.returns is None, (file, node.lineno))
            for node in nodes(tree, ast.ClassDef):
                self.assertTrue(len(node.bases) <= 1 and not node.decorator_list, (file, node.lineno))
                self.assertTrue(all(isinstance(part, ast.FunctionDef) for part in node.body), (file, node.lineno))

    def test_the_top_of_a_module(self):
        for file, tree in trees():
            functions = {node.name for node in tree.body if isinstance(node, ast.FunctionDef)}
            for node in [node for node in tree.body if isinstance(node, ast.Assign)]:
                for part in ast.walk(node.value):
                    self.assertIsInstance(part, PLAIN, (file, node.lineno))
                    self.assertTrue(not isinstance(part, ast.Name) or part.id in functions, (file, node.lineno))
                inner = [part for part in nodes(node.value, ast.List, ast.Dict) if part is not node.value]
                self.assertEqual(inner, [], (file, node.lineno))

    def test_no_power(self):
        for file, tree in trees():
            for node in nodes(tree, ast.Pow):
                self.fail(file)

    def test_walked_on_the_spot(self):
        for file, tree in trees():
            spots = [node.iter for node in nodes(tree, ast.For, ast.comprehension)]
            spots += [node.args[0] for node in nodes(tree, ast.Call) if called_name(node) in WALKERS and node.args]
            for node in nodes(tree, ast.Call):
                if called_name(node) in WALKED:
                    self.assertIn(node, spots, (file, node.lineno))

    def test_what_a_loop_walks_is_not_changed_in_it(self):
        changes = {"append", "clear", "extend", "insert", "pop", "remove", "reverse", "setdefault", "update"}
        for file, tree in trees():
            for loop in nodes(tree, ast.For):
                walked = {node.id for node in nodes(loop.iter, ast.Name)}
                for node in nodes(loop, ast.Call):
                    if isinstance(node.func, ast.Attribute) and node.func.attr in changes:
                        owner = node.func.value
                        changed = isinstance(owner, ast.Name) and owner.id in walked
                        self.assertFalse(changed, (file, node.lineno))

    def test_is_stands_beside_none_alone(self):
        for file, tree in trees():
            for node in nodes(tree, ast.Compare):
                if isinstance(node.ops[0], (ast.Is, ast.IsNot)):
                    self.assertIsInstance(node.comparators[0], ast.Constant, (file, node.lineno))


class TestNames(unittest.TestCase):
    def test_plain_and_allowed(self):
        for file, tree in trees():
            names = [node.id for node in nodes(tree, ast.Name)] + bound_names(tree)
            names += [node.name for node in nodes(tree, ast.FunctionDef, ast.ClassDef) if node.name not in DUNDERS]
            names += [node.attr for node in nodes(tree, ast.Attribute) if node.attr not in DUNDERS]
            for name in names:
                self.assertRegex(name, r"^[A-Za-z][A-Za-z0-9_]*$", file)
                self.assertNotIn(name, UNUSED, file)

    def test_pythons_own_names(self):
        for file, tree in trees():
            for node in nodes(tree, ast.Name):
                if hasattr(builtins, node.id):
                    self.assertIn(node.id, OWN_NAMES, (file, node.lineno))
                    self.assertIsInstance(node.ctx, ast.Load, (file, node.lineno))

    def test_no_local_hides_another_name(self):
        for file, tree in trees():
            tops = {node.name for node in tree.body if isinstance(node, (ast.FunctionDef, ast.ClassDef))}
            tops |= {alias.name for node in nodes(tree, ast.ImportFrom) for alias in node.names}
            for function in nodes(tree, ast.FunctionDef):
                for name in bound_names(function):
                    self.assertFalse(name in tops or hasattr(builtins, name), (file, name))

    def test_each_top_name_once(self):
        for file, tree in trees():
            names = [node.name for node in tree.body if isinstance(node, (ast.FunctionDef, ast.ClassDef))]
            names += [node.targets[0].id for node in tree.body if isinstance(node, ast.Assign)]
            names += [alias.name for node in nodes(tree, ast.ImportFrom) for alias in node.names]
            self.assertEqual(len(names), len(set(names)), file)

    def test_methods_and_values(self):
        values = set().union(*[value_names(tree) for _, tree in trees()])
        own = set().union(*[method_names(tree) for _, tree in trees()])
        self.assertEqual(values & own, set())
        for file, tree in trees():
            for node in nodes(tree, ast.Call):
                if isinstance(node.func, ast.Attribute):
                    self.assertIn(node.func.attr, METHODS | own, (file, node.lineno))
            for node in nodes(tree, ast.Attribute):
                self.assertIn(node.attr, METHODS | own | values, (file, node.lineno))


class TestImports(unittest.TestCase):
    def test_own_modules_and_no_circle(self):
        drawn = {}
        for file, tree in trees():
            rows = nodes(tree, ast.ImportFrom)
            drawn["inkpages." + file.stem] = [row.module for row in rows]
            for row in rows:
                self.assertTrue(row in tree.body and row.level == 0, (file, row.lineno))
                self.assertTrue(all(alias.asname is None for alias in row.names), (file, row.lineno))
        self.assertEqual(drawn["inkpages.__init__"], [])
        while drawn:
            free = [name for name in drawn if not set(drawn[name]) & set(drawn)]
            self.assertTrue(free, drawn)
            for name in free:
                drawn.pop(name)

    def test_names_come_from_the_file_that_defines_them(self):
        for file, tree in trees():
            for row in nodes(tree, ast.ImportFrom):
                self.assertTrue(row.module.startswith("inkpages."), (file, row.lineno))
                source = ast.parse((PACKAGE / (row.module.split(".")[1] + ".py")).read_text("utf-8"))
                defined = {node.name for node in source.body if isinstance(node, (ast.FunctionDef, ast.ClassDef))}
                defined |= {node.targets[0].id for node in source.body if isinstance(node, ast.Assign)}
                self.assertLessEqual({alias.name for alias in row.names}, defined, (file, row.lineno))


if __name__ == "__main__":
    unittest.main()
