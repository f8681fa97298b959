"""The rules of the language that can be seen in the package's rows."""

import ast
import pathlib
import re
import unittest

PACKAGE = pathlib.Path(__file__).resolve().parent.parent / "cubechaindesk"

OWN_NAMES = set("""len range enumerate zip min max sum abs sorted reversed int str bool list tuple dict set frozenset
    isinstance ord repr any all divmod Exception ValueError TypeError KeyError IndexError LookupError
    ZeroDivisionError ArithmeticError OverflowError RuntimeError NotImplementedError AttributeError
    StopIteration""".split())

OWN_METHODS = set("""append clear copy count endswith extend find get index insert isalnum isalpha isdigit islower
    isspace isupper items join keys ljust lower lstrip partition pop remove replace reverse rfind rjust rpartition
    rsplit rstrip setdefault split splitlines startswith strip update upper values zfill bit_length""".split())

WORDS_NOWHERE = set("""type typing typing_extensions enum Enum IntEnum StrEnum Flag IntFlag Generic Protocol ABC ABCMeta
    namedtuple NamedTuple TypedDict TYPE_CHECKING abstractmethod""".split())

NODES = (
    ast.Module, ast.FunctionDef, ast.ClassDef, ast.arguments, ast.arg, ast.Load, ast.Store,
    ast.Assign, ast.AugAssign, ast.If, ast.While, ast.For, ast.Return, ast.Break, ast.Continue, ast.Pass, ast.Raise,
    ast.Try, ast.ExceptHandler, ast.Expr, ast.Constant, ast.List, ast.Tuple, ast.Dict, ast.Name, ast.Attribute,
    ast.Subscript, ast.Slice, ast.Call, ast.keyword, ast.IfExp, ast.ListComp, ast.comprehension, ast.Lambda,
    ast.BinOp, ast.Add, ast.Sub, ast.Mult, ast.FloorDiv, ast.Mod, ast.Pow, ast.LShift, ast.RShift, ast.BitAnd,
    ast.BitOr, ast.BitXor, ast.UnaryOp, ast.USub, ast.Not, ast.Invert, ast.BoolOp, ast.And, ast.Or,
    ast.Compare, ast.Eq, ast.NotEq, ast.Lt, ast.LtE, ast.Gt, ast.GtE, ast.In, ast.NotIn, ast.Is, ast.IsNot,
    ast.JoinedStr, ast.FormattedValue,
)


def files():
    return sorted(PACKAGE.glob("*.py"))


def trees():
    return [(path.name, ast.parse(path.read_text())) for path in files()]


def nodes(kind):
    return [(name, node) for name, tree in trees() for node in ast.walk(tree) if isinstance(node, kind)]


def bound_names():
    names = {node.name for name, node in nodes((ast.FunctionDef, ast.ClassDef))}
    names |= {node.arg for name, node in nodes(ast.arg)}
    return names | {node.id for name, node in nodes(ast.Name) if isinstance(node.ctx, ast.Store)}


class Rows(unittest.TestCase):
    def test_only_plain_files(self):
        there = [path for path in PACKAGE.iterdir() if path.name != "__pycache__"]
        self.assertEqual(sorted(there), files())
        self.assertIn(PACKAGE / "__init__.py", there)

    def test_size_and_signs(self):
        for path in files():
            text = path.read_bytes().decode("ascii")
            self.assertLessEqual(text.count("\n"), 400, path)
            self.assertTrue(all(sign == "\n" or " " <= sign <= "~" for sign in text), path)
            self.assertTrue(all(len(row) <= 120 for row in text.split("\n")), path)

    def test_words_that_stand_nowhere(self):
        for path in files():
            self.assertEqual(WORDS_NOWHERE & set(re.findall(r"\w+", path.read_text())), set(), path)


class Code(unittest.TestCase):
    def setUp(self):
        self.kept = [tree for name, tree in trees()]

    def test_nothing_is_imported(self):
        self.assertEqual(nodes((ast.Import, ast.ImportFrom)), [])

    def test_allowed_forms_alone(self):
        for name, tree in trees():
            for node in ast.walk(tree):
                self.assertIsInstance(node, NODES, (name, getattr(node, "lineno", None)))

    def test_functions_are_short_and_plain(self):
        for name, node in nodes(ast.FunctionDef):
            self.assertLessEqual(node.end_lineno - node.lineno + 1, 40, node.name)
            given = node.args
            self.assertFalse(given.vararg or given.kwarg or given.kwonlyargs or given.posonlyargs, node.name)
            self.assertEqual(node.decorator_list, [])

    def test_values(self):
        for name, node in nodes(ast.Constant):
            self.assertIn(type(node.value), (int, str, bool, type(None)), (name, node.lineno))

    def test_one_target(self):
        for name, node in nodes(ast.Assign):
            self.assertEqual(len(node.targets), 1)
            self.assertNotIsInstance(node.targets[0], (ast.Tuple, ast.List), (name, node.lineno))

    def test_no_else_behind_a_loop(self):
        for name, node in nodes((ast.For, ast.While)):
            self.assertEqual(node.orelse, [], (name, node.lineno))

    def test_comprehensions_have_one_for(self):
        for name, node in nodes(ast.ListComp):
            self.assertEqual(len(node.generators), 1, (name, node.lineno))
            self.assertLessEqual(len(node.generators[0].ifs), 1, (name, node.lineno))

    def test_names(self):
        bound = bound_names()
        plain = {name for name in bound if name != "__init__"}
        self.assertTrue(all(re.fullmatch("[A-Za-z][A-Za-z0-9_]*", name) for name in plain), plain)
        self.assertEqual(bound & set(dir(__builtins__) if not isinstance(__builtins__, dict) else __builtins__), set())
        for name, node in nodes(ast.Name):
            self.assertIn(node.id, bound | OWN_NAMES, (name, node.lineno))

    def test_attributes(self):
        own = {node.name for name, node in nodes(ast.FunctionDef)}
        own |= {node.attr for name, node in nodes(ast.Attribute) if isinstance(node.ctx, ast.Store)}
        for name, node in nodes(ast.Attribute):
            self.assertIn(node.attr, own | OWN_METHODS, (name, node.lineno))

    def test_no_name_is_both_method_and_value(self):
        methods = {node.name for name, tree in nodes(ast.ClassDef) for node in tree.body
                   if isinstance(node, ast.FunctionDef)}
        values = {node.attr for name, node in nodes(ast.Attribute) if isinstance(node.ctx, ast.Store)}
        self.assertEqual(methods & values, set())
        own = [set(dir(kind)) for kind in (str, int, list, tuple, dict, set, bytes)]
        self.assertEqual((methods | values) & set().union(*own) - {"__init__"}, set())

    def test_methods_are_called_where_they_stand(self):
        called = {id(node.func) for tree in self.kept for node in ast.walk(tree) if isinstance(node, ast.Call)}
        for tree in self.kept:
            for node in ast.walk(tree):
                if isinstance(node, ast.Attribute) and node.attr in OWN_METHODS:
                    self.assertIn(id(node), called, node.lineno)

    def test_is_stands_beside_none_true_and_false(self):
        for name, node in nodes(ast.Compare):
            for sign, right in zip(node.ops, node.comparators):
                if isinstance(sign, (ast.Is, ast.IsNot)):
                    self.assertIsInstance(right, ast.Constant, (name, node.lineno))
                    self.assertIn(right.value, (None, True, False), (name, node.lineno))

    def test_the_top_of_a_file_binds_each_name_once(self):
        for name, tree in trees():
            names = [node.name for node in tree.body if isinstance(node, (ast.FunctionDef, ast.ClassDef))]
            names += [node.targets[0].id for node in tree.body if isinstance(node, ast.Assign)]
            self.assertEqual(len(names), len(set(names)), name)

    def test_sets_are_used_on_the_spot(self):
        inside = [node.args[0] for name, node in nodes(ast.Call)
                  if isinstance(node.func, ast.Name) and node.func.id in ("sorted", "len") and node.args]
        places = {(node.lineno, node.col_offset) for node in inside}
        for name, node in nodes(ast.Call):
            if isinstance(node.func, ast.Name) and node.func.id == "set":
                self.assertIn((node.lineno, node.col_offset), places, name)


if __name__ == "__main__":
    unittest.main()
