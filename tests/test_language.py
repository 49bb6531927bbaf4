"""The package keeps to the part of Python that ../shared/LANGUAGE.md tells, as far as a test can see it."""

import ast
import builtins
import pathlib
import re
import unittest

PACKAGE = pathlib.Path(__file__).resolve().parent.parent / "houserulesyard"
FILES = sorted(PACKAGE.glob("*.py"))

NODES = """
Module FunctionDef ClassDef arguments arg Return Assign AugAssign For While If Raise Try ExceptHandler ImportFrom alias
Expr Pass Break Continue BoolOp And Or BinOp Add Sub Mult FloorDiv Mod BitOr BitAnd BitXor LShift RShift UnaryOp Not
USub Invert IfExp Dict ListComp comprehension Compare Eq NotEq Lt LtE Gt GtE Is IsNot In NotIn Call keyword Constant
Attribute Subscript Name List Tuple Slice Load Store
""".split()
BUILTINS = """
len range enumerate zip min max sum abs sorted reversed int str bool list tuple dict isinstance ord repr any all divmod
Exception ValueError TypeError KeyError IndexError LookupError ZeroDivisionError ArithmeticError OverflowError
RuntimeError NotImplementedError
""".split()
METHODS = """
append clear copy count endswith extend find get index insert isalnum isalpha isdigit islower isspace isupper items join
keys ljust lower lstrip partition pop remove replace reverse rfind rjust rpartition rsplit rstrip setdefault split
splitlines startswith strip update upper values zfill bit_length
""".split()
NOT_USED = """
register mro elements open input version_info with_traceback add_note attrgetter breakpoint builtins compile copyright
credits delattr dir eval exec exit gc getattr globals hasattr help id importlib license locals methodcaller os quit
setattr super type vars sys chr set frozenset print format format_map
""".split()
NOWHERE = r"""\b(type|typing|typing_extensions|enum|Enum|IntEnum|StrEnum|Flag|IntFlag|Generic|Protocol|ABC|ABCMeta|
namedtuple|NamedTuple|TypedDict|TYPE_CHECKING|abstractmethod)\b|dataclass|overload|contextmanager""".replace("\n", "")
OWN_VALUES = {name for kind in (str, int, list, dict, set, bytes, tuple) for name in vars(kind)}
FREE_METHODS = {"add", "discard"}


def tree_of(path):
    return ast.parse(path.read_text(encoding="utf-8"))


def imported_from(tree):
    return [node for node in tree.body if isinstance(node, ast.ImportFrom)]


class Files(unittest.TestCase):
    def test_nothing_else_lies_in_the_package(self):
        names = {path.name for path in PACKAGE.iterdir() if path.name != "__pycache__"}
        self.assertEqual(names, {path.name for path in FILES})
        for path in FILES:
            self.assertRegex(path.name, r"^([a-z][a-z0-9_]*|__init__)\.py$")
            self.assertNotIn(path.stem, dir(builtins))
            self.assertNotRegex(path.stem, "^(test.*|site|conftest)$")

    def test_size_and_signs(self):
        for path in FILES:
            text = path.read_bytes()
            self.assertRegex(text, rb"^[ -~\n]*\Z", path.name)
            rows = text.decode().split("\n")
            self.assertLessEqual(len(rows), 400, path.name)
            self.assertLessEqual(max(map(len, rows)), 120, path.name)
            self.assertIsNone(re.search(NOWHERE, text.decode()), path.name)

    def test_functions_have_at_most_40_lines(self):
        for path in FILES:
            for node in ast.walk(tree_of(path)):
                if isinstance(node, ast.FunctionDef):
                    self.assertLessEqual(node.end_lineno - node.lineno + 1, 40, (path.name, node.name))


class Tops(unittest.TestCase):
    def test_what_stands_at_the_top_of_a_file(self):
        for path in FILES:
            bound = []
            for k, node in enumerate(tree_of(path).body):
                if isinstance(node, (ast.FunctionDef, ast.ClassDef)):
                    bound.append(node.name)
                elif isinstance(node, ast.ImportFrom):
                    bound.extend(alias.name for alias in node.names)
                elif isinstance(node, ast.Assign):
                    self.assertEqual(len(node.targets), 1)
                    bound.append(node.targets[0].id)
                    ast.literal_eval(node.value)
                else:
                    self.assertTrue(k == 0 and isinstance(node, ast.Expr), (path.name, node.lineno))
            self.assertEqual(len(bound), len(set(bound)), path.name)

    def test_imports_are_of_the_file_that_defines_the_name_and_go_one_way(self):
        drawn = {}
        for path in FILES:
            for node in imported_from(tree_of(path)):
                package, stem = node.module.split(".")
                self.assertEqual((package, node.level), ("houserulesyard", 0))
                drawn.setdefault(path.stem, set()).add(stem)
                there = [part.name if hasattr(part, "name") else part.targets[0].id
                         for part in tree_of(PACKAGE / (stem + ".py")).body
                         if isinstance(part, (ast.FunctionDef, ast.ClassDef, ast.Assign))]
                for alias in node.names:
                    self.assertIsNone(alias.asname)
                    self.assertIn(alias.name, there, path.name)
        left = {path.stem for path in FILES}
        while left:
            free = {stem for stem in left if not drawn.get(stem, set()) & left}
            self.assertTrue(free, left)
            left -= free

    def test_no_import_is_idle(self):
        for path in FILES:
            tree = tree_of(path)
            used = {node.id for node in ast.walk(tree) if isinstance(node, ast.Name)}
            for node in imported_from(tree):
                for alias in node.names:
                    self.assertIn(alias.name, used, path.name)


class Code(unittest.TestCase):
    def nodes(self):
        for path in FILES:
            for node in ast.walk(tree_of(path)):
                yield path.name + ":" + str(getattr(node, "lineno", "")), node

    def test_kinds_of_statements_and_expressions(self):
        for where, node in self.nodes():
            self.assertIn(node.__class__.__name__, NODES, where)
            self.assertFalse(getattr(node, "decorator_list", []), where)
            self.assertIsNone(getattr(node, "annotation", None), where)
            if isinstance(node, (ast.For, ast.While)):
                self.assertEqual(node.orelse, [], where)
            if isinstance(node, ast.Assign):
                self.assertEqual(len(node.targets), 1, where)
            if isinstance(node, ast.ListComp):
                self.assertEqual(len(node.generators), 1, where)
                self.assertLessEqual(len(node.generators[0].ifs), 1, where)
            if isinstance(node, ast.Constant):
                self.assertIn(node.value.__class__, (int, str, bool, None.__class__), where)
                self.assertNotIn("%", str(node.value), where)
            if isinstance(node, ast.arguments):
                self.assertFalse(node.vararg or node.kwarg or node.kwonlyargs or node.posonlyargs, where)

    def test_names(self):
        for path in FILES:
            tree = tree_of(path)
            tops = {alias.name for node in imported_from(tree) for alias in node.names}
            tops |= {node.name for node in tree.body if isinstance(node, ast.ClassDef)}
            for node in ast.walk(tree):
                where = (path.name, getattr(node, "lineno", 0))
                if isinstance(node, ast.Name):
                    self.assertNotIn(node.id, NOT_USED, where)
                    self.assertRegex(node.id, "^[A-Za-z][A-Za-z0-9_]*$", where)
                    if isinstance(node.ctx, ast.Store):
                        self.assertNotIn(node.id, dir(builtins), where)
                        self.assertNotIn(node.id, tops, where)
                    elif node.id in dir(builtins):
                        self.assertIn(node.id, BUILTINS, where)
                if isinstance(node, ast.arg):
                    self.assertNotIn(node.arg, dir(builtins), where)
                    self.assertNotIn(node.arg, tops, where)
                    self.assertRegex(node.arg, "^[a-z][a-z0-9_]*$", where)
                if isinstance(node, ast.FunctionDef) and node in tree.body:
                    self.assertNotIn(node.name, dir(builtins), where)

    def test_methods_and_values_of_objects(self):
        own_methods, own_values = set(), set()
        for where, node in self.nodes():
            if isinstance(node, ast.ClassDef):
                own_methods |= {part.name for part in node.body if isinstance(part, ast.FunctionDef)}
            if isinstance(node, ast.Attribute) and isinstance(node.ctx, ast.Store):
                own_values.add(node.attr)
        self.assertFalse(own_methods & own_values)
        self.assertLessEqual((own_methods - {"__init__"}) & OWN_VALUES, FREE_METHODS)
        self.assertFalse(own_values & OWN_VALUES)
        for where, node in self.nodes():
            if isinstance(node, ast.Attribute):
                self.assertIn(node.attr, own_methods | own_values | set(METHODS), where)
            if isinstance(node, ast.Compare) and any(isinstance(op, (ast.Is, ast.IsNot)) for op in node.ops):
                self.assertIsInstance(node.comparators[0], ast.Constant, where)

    def test_walks_are_walked_on_the_spot(self):
        lazy = {"zip", "enumerate", "reversed", "range", "items", "keys", "values"}
        for path in FILES:
            for parent in ast.walk(tree_of(path)):
                for child in ast.iter_child_nodes(parent):
                    if isinstance(child, ast.Call):
                        name = getattr(child.func, "id", getattr(child.func, "attr", ""))
                        if name in lazy:
                            self.assertTrue(isinstance(parent, (ast.For, ast.comprehension)) and parent.iter is child,
                                            (path.name, child.lineno))


if __name__ == "__main__":
    unittest.main()
