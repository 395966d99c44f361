"""The package's files keep to the small part of Python that the program is written in."""

import ast
import builtins
import pathlib
import re
import unittest

PACKAGE = pathlib.Path(__file__).resolve().parent.parent / "treecutsdesk"

BUILTINS = set("""len range enumerate zip min max sum abs sorted reversed int str bool list tuple dict set frozenset
    isinstance ord repr any all divmod Exception ValueError TypeError KeyError IndexError LookupError ZeroDivisionError
    ArithmeticError OverflowError RuntimeError NotImplementedError AttributeError StopIteration""".split())

METHODS = set("""append clear copy count endswith extend find get index insert isalnum isalpha isdigit islower isspace
    isupper items join keys ljust lower lstrip partition pop remove replace reverse rfind rjust rpartition rsplit rstrip
    setdefault split splitlines startswith strip update upper values zfill bit_length""".split())

WORDS = set("""type typing typing_extensions enum Enum IntEnum StrEnum Flag IntFlag Generic Protocol ABC ABCMeta
    namedtuple NamedTuple TypedDict TYPE_CHECKING abstractmethod""".split())

NODES = set("""Module FunctionDef ClassDef arguments arg Return Assign AugAssign For While If Raise Try ExceptHandler
    Expr Pass Break Continue BoolOp And Or BinOp Add Sub Mult FloorDiv Mod BitAnd BitOr BitXor LShift RShift UnaryOp Not
    USub Lambda IfExp Dict ListComp comprehension Compare Eq NotEq Lt LtE Gt GtE Is IsNot In NotIn Call keyword Constant
    Attribute Subscript Slice Name List Tuple Load Store ImportFrom alias JoinedStr FormattedValue""".split())


def files():
    return sorted(path for path in PACKAGE.rglob("*") if path.is_file() and path.suffix != ".pyc")


def trees():
    return [(path.name, ast.parse(path.read_text())) for path in files()]


class Files(unittest.TestCase):
    def test_there_are_only_plain_files_of_python(self):
        self.assertIn("cuts.py", [path.name for path in files()])
        for path in files():
            self.assertRegex(path.name, r"^[a-z0-9_]+\.py$")
            self.assertNotRegex(path.name, r"^(tests?|testing|test_.*|site|conftest)\.py$")

    def test_signs_and_sizes(self):
        for path in files():
            lines = path.read_text().split("\n")
            self.assertLessEqual(len(lines) - 1, 400, path.name)
            for line in lines:
                self.assertRegex(line, r"^[ -~]{0,120}$", path.name)

    def test_words_that_stand_nowhere(self):
        for path in files():
            text = path.read_text()
            self.assertEqual(WORDS & set(re.findall(r"\w+", text)), set(), path.name)
            self.assertNotRegex(text, "dataclass|overload|contextmanager")


class Code(unittest.TestCase):
    def each(self, *kinds):
        return [(f"{name}:{node.lineno}", node) for name, top in trees() for node in ast.walk(top)
                if isinstance(node, kinds)]

    def test_kinds_of_code(self):
        for name, top in trees():
            found = {type(node).__name__ for node in ast.walk(top)}
            self.assertEqual(found - NODES, set(), name)

    def test_functions_are_small_and_plain(self):
        for where, node in self.each(ast.FunctionDef):
            self.assertLessEqual(node.end_lineno - node.lineno + 1, 40, where)
            self.assertEqual(node.decorator_list, [], where)
            given = node.args
            self.assertEqual([given.vararg, given.kwarg], [None, None], where)
            self.assertEqual(given.kwonlyargs + given.posonlyargs, [], where)

    def test_names(self):
        for where, node in self.each(ast.Name):
            self.assertRegex(node.id, r"^[A-Za-z][A-Za-z0-9_]*$", where)
            if isinstance(node.ctx, ast.Store):
                self.assertNotIn(node.id, dir(builtins), where)

    def test_pythons_own_names(self):
        for where, node in self.each(ast.Name):
            if node.id in dir(builtins):
                self.assertIn(node.id, BUILTINS, where)

    def test_methods(self):
        for where, node in self.each(ast.Call):
            if isinstance(node.func, ast.Attribute):
                self.assertIn(node.func.attr, METHODS, where)

    def test_one_target_and_no_else_behind_a_loop(self):
        for where, node in self.each(ast.Assign):
            self.assertEqual(len(node.targets), 1, where)
        for where, node in self.each(ast.For, ast.While):
            self.assertEqual(node.orelse, [], where)

    def test_comprehensions_have_one_for_and_at_most_one_if(self):
        for where, node in self.each(ast.ListComp):
            self.assertEqual(len(node.generators), 1, where)
            self.assertLessEqual(len(node.generators[0].ifs), 1, where)

    def test_a_name_is_bound_once_at_a_files_top(self):
        for name, top in trees():
            bound = [node.name for node in top.body if isinstance(node, (ast.FunctionDef, ast.ClassDef))]
            bound += [node.targets[0].id for node in top.body if isinstance(node, ast.Assign)]
            self.assertEqual(len(bound), len(set(bound)), name)

    def test_imports_are_of_the_package_alone(self):
        for where, node in self.each(ast.ImportFrom):
            self.assertEqual(node.level, 0, where)
            self.assertRegex(node.module, r"^treecutsdesk\.[a-z0-9_]+$", where)


if __name__ == "__main__":
    unittest.main()
