"""The package keeps to the small part of the language that it's written in, as far as its text shows it."""

import ast
import builtins
import pathlib
import re
import unittest

PACKAGE = pathlib.Path(__file__).resolve().parent.parent / "movingdiscs"

BUILTINS = set("""
    len range enumerate zip min max sum abs sorted reversed int str bool list tuple dict set frozenset isinstance ord
    repr any all divmod Exception ValueError TypeError KeyError IndexError LookupError ZeroDivisionError
    ArithmeticError OverflowError RuntimeError NotImplementedError AttributeError StopIteration
""".split())

METHODS = set("""
    append clear copy count endswith extend find get index insert isalnum isalpha isdigit islower isspace isupper items
    join keys ljust lower lstrip partition pop remove replace reverse rfind rjust rpartition rsplit rstrip setdefault
    split splitlines startswith strip update upper values zfill bit_length
""".split())

WORDS = set("""
    type typing typing_extensions enum Enum IntEnum StrEnum Flag IntFlag Generic Protocol ABC ABCMeta namedtuple
    NamedTuple TypedDict TYPE_CHECKING abstractmethod
""".split())

NODES = (
    ast.Module, ast.ImportFrom, ast.alias, ast.FunctionDef, ast.arguments, ast.arg, ast.ClassDef, ast.Return,
    ast.Assign, ast.AugAssign, ast.For, ast.While, ast.If, ast.Raise, ast.Try, ast.ExceptHandler, ast.Expr, ast.Pass, ast.Break,
    ast.Continue, ast.BoolOp, ast.BinOp, ast.UnaryOp, ast.Lambda, ast.IfExp, ast.Dict, ast.Compare, ast.Call,
    ast.Constant, ast.Attribute, ast.Subscript, ast.Name, ast.List, ast.Tuple, ast.Slice, ast.ListComp,
    ast.comprehension, ast.keyword, ast.JoinedStr, ast.FormattedValue, ast.expr_context, ast.boolop, ast.operator,
    ast.unaryop, ast.cmpop,
)


def files():
    """Each file of the package with its text and its tree."""
    for path in sorted(PACKAGE.glob("*.py")):
        text = path.read_bytes().decode("utf-8")
        yield path.name, text, ast.parse(text)


def nodes():
    for name, text, tree in files():
        for node in ast.walk(tree):
            yield f"{name}:{getattr(node, 'lineno', 0)}", node


class LanguageTest(unittest.TestCase):
    def test_nothing_else_lies_in_the_package(self):
        found = [path.name for path in PACKAGE.iterdir() if path.name != "__pycache__"]
        self.assertIn("__init__.py", found)
        self.assertEqual([name for name in found if not re.fullmatch(r"[a-z0-9_]+\.py", name)], [])

    def test_signs_and_sizes(self):
        for name, text, tree in files():
            rows = text.split("\n")
            self.assertLessEqual(len(rows), 400, name)
            for number, row in enumerate(rows, start=1):
                where = f"{name}:{number}"
                self.assertLessEqual(len(row), 120, where)
                self.assertRegex(row, r"^[ -~]*$", where)
                self.assertEqual(set(re.findall(r"\w+", row)) & WORDS, set(), where)
                self.assertNotRegex(row, "dataclass|overload|contextmanager", where)

    def test_functions_are_short_and_plain(self):
        for where, node in nodes():
            if isinstance(node, ast.FunctionDef):
                self.assertLessEqual(node.end_lineno - node.lineno + 1, 40, where)
                self.assertEqual(node.decorator_list, [], where)
                self.assertIsNone(node.args.vararg, where)
                self.assertIsNone(node.args.kwarg, where)
                self.assertEqual(node.args.kwonlyargs, [], where)

    def test_only_the_allowed_forms(self):
        for where, node in nodes():
            self.assertIsInstance(node, NODES, where)
            self.assertNotIsInstance(node, (ast.Div, ast.MatMult), where)
            if isinstance(node, (ast.For, ast.While)):
                self.assertEqual(node.orelse, [], where)
            if isinstance(node, ast.Assign):
                self.assertEqual(len(node.targets), 1, where)
            if isinstance(node, ast.ListComp):
                self.assertEqual(len(node.generators), 1, where)
                self.assertLessEqual(len(node.generators[0].ifs), 1, where)
            if isinstance(node, ast.Constant):
                self.assertIn(type(node.value), (int, str, bool, type(None)), where)
            if isinstance(node, ast.Compare) and any(isinstance(op, (ast.Is, ast.IsNot)) for op in node.ops):
                self.assertIn(getattr(node.comparators[0], "value", 0), (None, True, False), where)

    def test_imports_are_the_packages_own(self):
        for where, node in nodes():
            if isinstance(node, ast.ImportFrom):
                self.assertEqual(node.level, 0, where)
                self.assertRegex(node.module, r"^movingdiscs\.\w+$", where)
                self.assertNotIn("*", [alias.name for alias in node.names], where)

    def test_names(self):
        python_own = set(dir(builtins))
        for where, node in nodes():
            bound = None
            if isinstance(node, ast.Name):
                if isinstance(node.ctx, ast.Load) and node.id in python_own:
                    self.assertIn(node.id, BUILTINS, where)
                bound = node.id if isinstance(node.ctx, ast.Store) else None
            elif isinstance(node, ast.arg):
                bound = node.arg
            elif isinstance(node, (ast.FunctionDef, ast.ClassDef)) and node.name != "__init__":
                bound = node.name
            if bound is not None:
                self.assertNotIn(bound, python_own, where)
                self.assertRegex(bound, r"^[A-Za-z]\w*$", where)

    def test_imports_are_from_the_file_that_defines_the_name_and_never_in_a_ring(self):
        defined = {name[:-3]: {node.name for node in tree.body if isinstance(node, (ast.FunctionDef, ast.ClassDef))}
                   for name, text, tree in files()}
        drawn = {}
        for name, text, tree in files():
            rows = [node for node in tree.body if isinstance(node, ast.ImportFrom)]
            drawn[name[:-3]] = {row.module.split(".")[1] for row in rows}
            for row in rows:
                self.assertLessEqual({alias.name for alias in row.names}, defined[row.module.split(".")[1]], name)
        while drawn:
            ends = [name for name in drawn if not drawn[name] & set(drawn)]
            self.assertNotEqual(ends, [], drawn)
            for name in ends:
                drawn.pop(name)

    def test_no_local_is_called_like_a_class_an_import_or_a_function_of_its_file(self):
        for name, text, tree in files():
            taken = {node.name for node in tree.body if isinstance(node, (ast.FunctionDef, ast.ClassDef))}
            for row in tree.body:
                if isinstance(row, ast.ImportFrom):
                    taken |= {alias.name for alias in row.names}
            for node in ast.walk(tree):
                where = f"{name}:{getattr(node, 'lineno', 0)}"
                if isinstance(node, ast.arg):
                    self.assertNotIn(node.arg, taken, where)
                elif isinstance(node, ast.Name) and isinstance(node.ctx, ast.Store):
                    self.assertNotIn(node.id, taken, where)

    def test_methods(self):
        own = {node.name for where, node in nodes() if isinstance(node, ast.FunctionDef)}
        for where, node in nodes():
            if isinstance(node, ast.Call) and isinstance(node.func, ast.Attribute):
                self.assertIn(node.func.attr, METHODS | own, where)


if __name__ == "__main__":
    unittest.main()
