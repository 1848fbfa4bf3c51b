"""The rules of LANGUAGE.md that can be read off the package's own files."""

import ast
import builtins
import pathlib
import re
import unittest

PACKAGE = pathlib.Path(__file__).resolve().parent.parent / "evenbeats"
FILES = sorted(path for path in PACKAGE.rglob("*") if path.is_file() and "__pycache__" not in path.parts)

ALLOWED_NODES = set("""
    Module Import ImportFrom alias FunctionDef ClassDef Lambda arguments arg Return Assign AugAssign If While For
    Break Continue Pass Raise Try ExceptHandler Expr Call keyword Attribute Subscript Slice Name Load Store Constant
    List Tuple Dict Set ListComp comprehension JoinedStr FormattedValue BinOp UnaryOp BoolOp Compare IfExp
    Add Sub Mult FloorDiv Mod Pow LShift RShift BitOr BitAnd BitXor Invert UAdd USub Not And Or
    Eq NotEq Lt LtE Gt GtE In NotIn Is IsNot
""".split())

ALLOWED_BUILTINS = set("""
    len range enumerate zip min max sum abs sorted reversed int str bool list tuple dict set frozenset isinstance ord
    repr any all divmod Exception ValueError TypeError KeyError IndexError LookupError ZeroDivisionError
    ArithmeticError OverflowError RuntimeError NotImplementedError AttributeError StopIteration
""".split())

ALLOWED_METHODS = set("""
    append clear copy count endswith extend find get index insert isalnum isalpha isdigit islower isspace isupper
    items join keys ljust lower lstrip partition pop remove replace reverse rfind rjust rpartition rsplit rstrip
    setdefault split splitlines startswith strip update upper values zfill bit_length
""".split())

OWN_TWO_UNDERSCORES = {"__init__", "__eq__", "__repr__", "__str__", "__len__"}

WORDS_NOWHERE = re.compile(
    r"\b(type|typing|typing_extensions|enum|Enum|IntEnum|StrEnum|Flag|IntFlag|Generic|Protocol|ABC|ABCMeta"
    r"|namedtuple|NamedTuple|TypedDict|TYPE_CHECKING|abstractmethod)\b|dataclass|overload|contextmanager"
)


def trees():
    return [(path, ast.parse(path.read_text())) for path in FILES]


def nodes_of(*kinds):
    return [(path.name, node) for path, tree in trees() for node in ast.walk(tree) if isinstance(node, kinds)]


def names_at_the_top(tree):
    names = [node.name for node in tree.body if isinstance(node, (ast.FunctionDef, ast.ClassDef))]
    return names + [node.targets[0].id for node in tree.body if isinstance(node, ast.Assign)]


class LanguageTest(unittest.TestCase):
    def test_the_package_holds_plain_files_alone(self):
        self.assertIn(PACKAGE / "__init__.py", FILES)
        for path in FILES:
            self.assertRegex(path.name, r"\A([a-z][a-z0-9_]*|__init__)\.py\Z")
            self.assertNotRegex(path.name, r"\Atest")

    def test_signs_and_sizes(self):
        for path in FILES:
            text = path.read_bytes().decode("ascii")
            self.assertRegex(text, r"\A[ -~\n]*\Z", path.name)
            self.assertLessEqual(len(text.splitlines()), 400, path.name)
            self.assertLessEqual(max([len(line) for line in text.splitlines()]), 120, path.name)
        for name, node in nodes_of(ast.FunctionDef):
            self.assertLessEqual(node.end_lineno - node.lineno + 1, 40, (name, node.name))

    def test_words_that_stand_nowhere(self):
        for path in FILES:
            self.assertIsNone(WORDS_NOWHERE.search(path.read_text()), path.name)

    def test_only_the_allowed_forms(self):
        for name, node in nodes_of(ast.AST):
            self.assertIn(node.__class__.__name__, ALLOWED_NODES, (name, getattr(node, "lineno", None)))
        for name, node in nodes_of(ast.FunctionDef, ast.ClassDef):
            self.assertEqual(node.decorator_list, [], (name, node.name))
        for name, node in nodes_of(ast.Constant):
            self.assertIn(node.value.__class__, (int, str, bool, type(None)), (name, node.lineno))

    def test_only_the_package_s_own_modules_are_imported(self):
        for name, node in nodes_of(ast.Import, ast.ImportFrom):
            self.assertIsInstance(node, ast.ImportFrom, name)
            self.assertEqual(node.level, 0, name)
            self.assertRegex(node.module, r"\Aevenbeats\.[a-z_]+\Z", name)

    def test_names_are_imported_from_the_very_file_that_defines_them(self):
        bound = {path.stem: names_at_the_top(tree) for path, tree in trees()}
        for name, node in nodes_of(ast.ImportFrom):
            for alias in node.names:
                self.assertIn(alias.name, bound[node.module.split(".")[1]], (name, node.lineno))
                self.assertIsNone(alias.asname, (name, node.lineno))

    def test_no_two_files_draw_from_one_another(self):
        drawn = {
            path.stem: {node.module.split(".")[1] for node in tree.body if isinstance(node, ast.ImportFrom)}
            for path, tree in trees()
        }
        while drawn:
            free = [name for name, others in drawn.items() if not others & set(drawn)]
            self.assertTrue(free, sorted(drawn))
            for name in free:
                drawn.pop(name)

    def test_each_name_once_at_a_file_s_top_and_for_nothing_else(self):
        for path, tree in trees():
            names = names_at_the_top(tree)
            names += [alias.name for node in tree.body if isinstance(node, ast.ImportFrom) for alias in node.names]
            self.assertEqual(sorted(names), sorted(set(names)), path.name)
            for node in ast.walk(tree):
                if isinstance(node, ast.arg):
                    self.assertNotIn(node.arg, names, (path.name, node.lineno))
            for top in tree.body:
                for node in ast.walk(top) if isinstance(top, (ast.FunctionDef, ast.ClassDef)) else ():
                    if isinstance(node, ast.Name) and isinstance(node.ctx, ast.Store):
                        self.assertNotIn(node.id, names, (path.name, node.lineno))

    def test_one_target_in_an_assignment(self):
        for name, node in nodes_of(ast.Assign):
            self.assertEqual(len(node.targets), 1, (name, node.lineno))
            self.assertNotIsInstance(node.targets[0], (ast.Tuple, ast.List), (name, node.lineno))

    def test_loops_comprehensions_and_tries_are_plain(self):
        for name, node in nodes_of(ast.For, ast.While):
            self.assertEqual(node.orelse, [], (name, node.lineno))
        for name, node in nodes_of(ast.Try):
            self.assertEqual(node.finalbody, [], (name, node.lineno))
        for name, node in nodes_of(ast.ListComp):
            self.assertEqual(len(node.generators), 1, (name, node.lineno))
            self.assertLessEqual(len(node.generators[0].ifs), 1, (name, node.lineno))

    def test_is_stands_beside_none_true_and_false_alone(self):
        for name, node in nodes_of(ast.Compare):
            for operator, right in zip(node.ops, node.comparators):
                if isinstance(operator, (ast.Is, ast.IsNot)):
                    self.assertIsInstance(right, ast.Constant, (name, node.lineno))
                    self.assertIn(right.value.__class__, (bool, type(None)), (name, node.lineno))

    def test_only_the_allowed_names_of_python_s_own(self):
        for name, node in nodes_of(ast.Name):
            if hasattr(builtins, node.id):
                self.assertIn(node.id, ALLOWED_BUILTINS, (name, node.lineno))
                self.assertIsInstance(node.ctx, ast.Load, (name, node.lineno))
        for name, node in nodes_of(ast.arg):
            self.assertFalse(hasattr(builtins, node.arg), (name, node.arg))

    def test_only_the_allowed_methods_of_python_s_own(self):
        own = {node.name for name, node in nodes_of(ast.FunctionDef)}
        for name, node in nodes_of(ast.Call):
            if isinstance(node.func, ast.Attribute):
                self.assertIn(node.func.attr, ALLOWED_METHODS | own, (name, node.lineno))

    def test_no_name_begins_with_an_underscore(self):
        names = [(node.id, name) for name, node in nodes_of(ast.Name)]
        names += [(node.arg, name) for name, node in nodes_of(ast.arg)]
        names += [(node.attr, name) for name, node in nodes_of(ast.Attribute)]
        names += [(node.name, name) for name, node in nodes_of(ast.FunctionDef, ast.ClassDef)]
        for word, name in names:
            self.assertTrue(word in OWN_TWO_UNDERSCORES or not word.startswith("_"), (name, word))


if __name__ == "__main__":
    unittest.main()
