"""The part of Python that the package keeps to, so far as a walk over its files can see it."""

import ast
import builtins
import pathlib
import re
import unittest

PACKAGE = pathlib.Path(__file__).resolve().parent.parent / "keydesk"
FILES = sorted(path for path in PACKAGE.rglob("*") if "__pycache__" not in path.parts)

OWN_NAMES = set("""
    len range enumerate zip min max sum abs sorted reversed int str bool list tuple dict set frozenset isinstance
    ord repr any all divmod Exception ValueError TypeError KeyError IndexError LookupError ZeroDivisionError
    ArithmeticError OverflowError RuntimeError NotImplementedError AttributeError StopIteration
""".split())
OWN_METHODS = set("""
    append clear copy count endswith extend find get index insert isalnum isalpha isdigit islower isspace isupper
    items join keys ljust lower lstrip partition pop remove replace reverse rfind rjust rpartition rsplit rstrip
    setdefault split splitlines startswith strip update upper values zfill bit_length
""".split())
VALUES_THAT_MAY_BE = set("count index title find get join lower upper split strip copy add".split())
UNUSED_WORDS = set("""
    type typing typing_extensions enum Enum IntEnum StrEnum Flag IntFlag Generic Protocol ABC ABCMeta namedtuple
    NamedTuple TypedDict TYPE_CHECKING abstractmethod
""".split())
UNUSED_NAMES = set("""
    register mro elements open input version_info with_traceback add_note attrgetter breakpoint builtins compile
    copyright credits delattr dir eval exec exit gc getattr globals hasattr help id importlib license locals
    methodcaller os quit setattr super type vars sys
""".split())
NODES = set("""
    Module FunctionDef ClassDef ImportFrom alias arguments arg Expr Assign AugAssign If While For Return Break
    Continue Pass Raise Try ExceptHandler Name Load Store Constant List Tuple Dict BinOp UnaryOp BoolOp Compare
    IfExp Call Attribute Subscript Slice ListComp comprehension JoinedStr FormattedValue Lambda keyword Add Sub Mult
    FloorDiv Mod Pow BitAnd BitOr BitXor LShift RShift Invert USub UAdd Not And Or Eq NotEq Lt LtE Gt GtE In NotIn
    Is IsNot
""".split())
METHODS_WITH_UNDERSCORES = {"__init__", "__eq__", "__repr__", "__str__", "__len__"}
PYTHONS_OWN_VALUES = {name for kind in (str, int, list, dict, set, bytes, tuple) for name in dir(kind)}


def trees():
    return [(path.name, ast.parse(path.read_text(encoding="ascii"))) for path in FILES]


def nodes(*kinds):
    return [(name, node) for name, tree in trees() for node in ast.walk(tree) if isinstance(node, kinds)]


def bound_names(tree):
    """Every name that a file binds, with the node that does."""
    for node in ast.walk(tree):
        if isinstance(node, (ast.FunctionDef, ast.ClassDef)):
            yield node.name, node
        elif isinstance(node, ast.arg):
            yield node.arg, node
        elif isinstance(node, ast.Name) and isinstance(node.ctx, ast.Store):
            yield node.id, node


class TestFiles(unittest.TestCase):
    def test_names_of_files(self):
        self.assertIn("desk.py", [path.name for path in FILES])
        for path in FILES:
            self.assertRegex(path.name, r"^([a-z][a-z0-9_]*|__init__|__main__)\.py$")
            self.assertNotIn(path.stem, set(dir(builtins)) | UNUSED_WORDS | {"test", "tests", "testing", "site"})

    def test_signs_and_sizes(self):
        for path in FILES:
            text = path.read_bytes().decode("ascii")
            self.assertRegex(text, r"\A[\n -~]*\Z")
            self.assertLessEqual(len(text.splitlines()), 400)
            self.assertLessEqual(max(len(line) for line in text.splitlines()), 120)
            self.assertEqual(set(re.findall(r"\w+", text)) & UNUSED_WORDS, set())
            self.assertIsNone(re.search("dataclass|overload|contextmanager", text))
        for name, node in nodes(ast.FunctionDef):
            self.assertLessEqual(node.end_lineno - node.lineno + 1, 40, (name, node.name))


class TestForms(unittest.TestCase):
    def test_only_what_is_allowed(self):
        for name, node in nodes(ast.AST):
            self.assertIn(node.__class__.__name__, NODES, (name, getattr(node, "lineno", None)))

    def test_assignments(self):
        for name, node in nodes(ast.Assign):
            self.assertEqual(len(node.targets), 1, (name, node.lineno))

    def test_loops_and_tries(self):
        for name, node in nodes(ast.For, ast.While):
            self.assertEqual(node.orelse, [], (name, node.lineno))
        for name, node in nodes(ast.Try):
            self.assertEqual(node.finalbody, [], (name, node.lineno))

    def test_functions(self):
        for name, node in nodes(ast.FunctionDef):
            self.assertEqual(node.decorator_list, [], (name, node.lineno))
            self.assertIsNone(node.args.vararg or node.args.kwarg or node.returns, (name, node.lineno))
            self.assertEqual(node.args.kwonlyargs + node.args.posonlyargs, [], (name, node.lineno))

    def test_is_stands_beside_none_true_false(self):
        for name, node in nodes(ast.Compare):
            for operator, right in zip(node.ops, node.comparators):
                if isinstance(operator, (ast.Is, ast.IsNot)):
                    self.assertIn(ast.unparse(right), ("None", "True", "False"), (name, node.lineno))

    def test_powers_and_values(self):
        for name, node in nodes(ast.BinOp):
            if isinstance(node.op, ast.Pow):
                self.assertIsInstance(node.right, ast.Constant, (name, node.lineno))
        for name, node in nodes(ast.Constant):
            self.assertIsInstance(node.value, (int, str, type(None)), (name, node.lineno))

    def test_comprehensions(self):
        for name, node in nodes(ast.ListComp):
            self.assertEqual(len(node.generators), 1, (name, node.lineno))
            self.assertLessEqual(len(node.generators[0].ifs), 1, (name, node.lineno))

    def test_the_top_of_a_file(self):
        for name, tree in trees():
            self.assertIsNotNone(ast.get_docstring(tree), name)
            for node in tree.body[1:]:
                self.assertIsInstance(node, (ast.ImportFrom, ast.FunctionDef, ast.ClassDef, ast.Assign), name)
                if isinstance(node, ast.Assign):
                    ast.literal_eval(node.value)


class TestNames(unittest.TestCase):
    def test_imports(self):
        defined = {f"keydesk.{path.stem}": {name for name, node in bound_names(ast.parse(path.read_text()))}
                   for path in FILES}
        for name, node in nodes(ast.ImportFrom):
            self.assertEqual(node.level, 0, name)
            self.assertIn(node.module, defined, name)
            for drawn in node.names:
                self.assertIn(drawn.name, defined[node.module], name)
                self.assertIsNone(drawn.asname, name)

    def test_no_two_files_draw_from_one_another(self):
        draws = {f"keydesk.{name[:-3]}": {node.module for node in tree.body if isinstance(node, ast.ImportFrom)}
                 for name, tree in trees()}
        while draws:
            free = [name for name in draws if not draws[name] & set(draws)]
            self.assertNotEqual(free, [], draws)
            for name in free:
                draws.pop(name)

    def test_names_that_are_bound(self):
        for name, tree in trees():
            top = {node.name for node in tree.body if isinstance(node, ast.ClassDef)}
            top |= {drawn.name for node in tree.body if isinstance(node, ast.ImportFrom) for drawn in node.names}
            for bound, node in bound_names(tree):
                where = (name, bound, node.lineno)
                if bound not in METHODS_WITH_UNDERSCORES:
                    self.assertRegex(bound, r"^[A-Za-z][A-Za-z0-9_]*$", where)
                self.assertNotIn(bound, set(dir(builtins)) | UNUSED_NAMES, where)
                if not isinstance(node, ast.ClassDef):
                    self.assertNotIn(bound, top, where)

    def test_names_that_are_read(self):
        for name, tree in trees():
            known = {bound for bound, node in bound_names(tree)} | OWN_NAMES
            known |= {drawn.name for node in tree.body if isinstance(node, ast.ImportFrom) for drawn in node.names}
            for node in ast.walk(tree):
                if isinstance(node, ast.Name):
                    self.assertIn(node.id, known, (name, node.lineno))

    def test_methods_and_values(self):
        methods = {node.name for name, kind in nodes(ast.ClassDef) for node in kind.body
                   if isinstance(node, ast.FunctionDef)}
        stored = {node.attr for name, node in nodes(ast.Attribute) if isinstance(node.ctx, ast.Store)}
        self.assertEqual(methods & stored, set())
        self.assertEqual((stored & PYTHONS_OWN_VALUES) - VALUES_THAT_MAY_BE, set())
        self.assertEqual(((methods - METHODS_WITH_UNDERSCORES) & PYTHONS_OWN_VALUES) - OWN_METHODS - {"add", "discard"},
                         set())
        for name, tree in trees():
            for node in ast.walk(tree):
                if isinstance(node, ast.Call) and isinstance(node.func, ast.Attribute):
                    self.assertIn(node.func.attr, OWN_METHODS | methods, (name, node.lineno))
                if isinstance(node, ast.Attribute):
                    self.assertNotIn(node.attr, UNUSED_NAMES, (name, node.lineno))

    def test_a_class_has_methods_alone(self):
        for name, kind in nodes(ast.ClassDef):
            self.assertEqual(kind.decorator_list + kind.keywords, [], name)
            self.assertLessEqual(len(kind.bases), 1, name)
            names = [node.name for node in kind.body if isinstance(node, ast.FunctionDef)]
            self.assertEqual(len(names), len(set(names)), name)
            for node in kind.body:
                self.assertIsInstance(node, (ast.FunctionDef, ast.Expr, ast.Pass), name)


if __name__ == "__main__":
    unittest.main()
