"""The form of the package's own files, as far as it can be seen from the rows: see ../shared/LANGUAGE.md (L1 to L28)."""

import ast
import builtins
import pathlib
import re
import unittest

PACKAGE = pathlib.Path(__file__).resolve().parent.parent / "leafsay"
FILES = sorted(path for path in PACKAGE.rglob("*") if "__pycache__" not in path.parts)

NODES = set("""
Module FunctionDef ClassDef arguments arg Return Assign AugAssign For While If Raise Try ExceptHandler ImportFrom alias
Expr Pass Break Continue BoolOp BinOp UnaryOp Lambda IfExp Dict Set ListComp comprehension Compare Call JoinedStr
FormattedValue Constant Attribute Subscript Name List Tuple Slice Load Store And Or Add Sub Mult Mod Pow LShift RShift
BitOr BitXor BitAnd FloorDiv Invert Not UAdd USub Eq NotEq Lt LtE Gt GtE Is IsNot In NotIn keyword
""".split())
OWN_OF_PYTHON = set("""
len range enumerate zip min max sum abs sorted reversed int str bool list tuple dict set frozenset isinstance ord repr
any all divmod Exception ValueError TypeError KeyError IndexError LookupError ZeroDivisionError ArithmeticError
OverflowError RuntimeError NotImplementedError AttributeError StopIteration
""".split())
METHODS = set("""
append clear copy count endswith extend find get index insert isalnum isalpha isdigit islower isspace isupper items join
keys ljust lower lstrip partition pop remove replace reverse rfind rjust rpartition rsplit rstrip setdefault split
splitlines startswith strip update upper values zfill bit_length
""".split())
WORDS = re.compile(
    r"\b(type|typing|typing_extensions|enum|Enum|IntEnum|StrEnum|Flag|IntFlag|Generic|Protocol|ABC|ABCMeta|namedtuple|"
    r"NamedTuple|TypedDict|TYPE_CHECKING|abstractmethod)\b|dataclass|overload|contextmanager"
)


def trees():
    return [(path.name, ast.parse(path.read_text("ascii"))) for path in FILES]


def nodes_of(sort):
    return [(name, node) for name, tree in trees() for node in ast.walk(tree) if isinstance(node, sort)]


class Files(unittest.TestCase):
    def test_names(self):
        self.assertIn("__init__.py", [path.name for path in FILES])
        for path in FILES:
            self.assertRegex(path.name, r"\A(__init__|__main__|[a-z][a-z0-9_]*)\.py\Z")
            self.assertNotIn(path.stem, dir(builtins))
            self.assertNotRegex(path.stem, r"\A(tests?|testing|test_.*|site|conftest|sitecustomize|usercustomize)\Z")

    def test_signs_rows_and_words(self):
        for path in FILES:
            told = path.read_bytes().decode("ascii")
            self.assertRegex(told, r"\A[ -~\n]*\Z", path.name)
            self.assertIsNone(WORDS.search(told), path.name)
            self.assertLessEqual(len(told.splitlines()), 400, path.name)
            self.assertLessEqual(max(len(row) for row in told.splitlines()), 120, path.name)


class Code(unittest.TestCase):
    def test_only_these_sorts_of_nodes(self):
        for name, node in nodes_of(ast.AST):
            self.assertIn(type(node).__name__, NODES, (name, getattr(node, "lineno", 0)))

    def test_plain_values(self):
        for name, node in nodes_of(ast.Constant):
            self.assertIn(type(node.value), (int, str, bool, type(None)), (name, node.lineno))

    def test_short_functions_without_decorators(self):
        for name, node in nodes_of(ast.FunctionDef):
            self.assertLessEqual(node.end_lineno - node.lineno + 1, 40, (name, node.name))
            self.assertEqual(node.decorator_list, [], (name, node.name))
            self.assertIsNone(node.args.vararg or node.args.kwarg, (name, node.name))
            self.assertEqual(node.args.kwonlyargs + node.args.posonlyargs, [], (name, node.name))

    def test_imports_are_of_the_package_and_at_the_top(self):
        for name, tree in trees():
            for node in ast.walk(tree):
                if isinstance(node, ast.ImportFrom):
                    self.assertIn(node, tree.body, (name, node.lineno))
                    self.assertTrue(node.module.startswith("leafsay."), (name, node.lineno))
                    self.assertNotIn("*", [one.name for one in node.names], (name, node.lineno))

    def test_names_of_python(self):
        for name, node in nodes_of(ast.Name):
            if node.id in dir(builtins):
                self.assertIn(node.id, OWN_OF_PYTHON, (name, node.lineno))
                self.assertIsInstance(node.ctx, ast.Load, (name, node.lineno))
            self.assertRegex(node.id, r"\A[A-Za-z][A-Za-z0-9_]*\Z", (name, node.lineno))

    def test_parameters_are_not_called_like_names_of_python(self):
        for name, node in nodes_of(ast.arg):
            self.assertNotIn(node.arg, dir(builtins), (name, node.lineno))

    def test_methods(self):
        own = {node.name for name, node in nodes_of(ast.FunctionDef)}
        for name, node in nodes_of(ast.Call):
            if isinstance(node.func, ast.Attribute):
                self.assertIn(node.func.attr, METHODS | own, (name, node.lineno))

    def test_no_name_is_a_method_and_a_value(self):
        methods = {one.name for name, node in nodes_of(ast.ClassDef) for one in node.body
                   if isinstance(one, ast.FunctionDef)}
        for name, node in nodes_of(ast.Attribute):
            if isinstance(node.ctx, ast.Store):
                self.assertNotIn(node.attr, methods, (name, node.lineno))
            self.assertNotIn(node.attr, ("args", "format", "sort", "open", "input", "mro"), (name, node.lineno))

    def test_sets_are_made_and_asked_on_the_spot(self):
        for name, tree in trees():
            within = {id(inner) for node in ast.walk(tree)
                      for inner in (node.args if isinstance(node, ast.Call) and isinstance(node.func, ast.Name)
                                    and node.func.id in ("len", "sorted") else
                                    [node.left] + node.comparators if isinstance(node, ast.Compare) else [])}
            for node in ast.walk(tree):
                if isinstance(node, ast.Call) and isinstance(node.func, ast.Name) and node.func.id in ("set", "frozenset"):
                    self.assertIn(id(node), within, (name, node.lineno))

    def test_what_is_walked_is_not_kept(self):
        for name, tree in trees():
            for node in ast.walk(tree):
                if isinstance(node, (ast.Assign, ast.Return)) and isinstance(node.value, ast.Call):
                    made_by = node.value.func
                    called = made_by.id if isinstance(made_by, ast.Name) else getattr(made_by, "attr", "")
                    self.assertNotIn(called, ("zip", "enumerate", "reversed", "range", "items", "keys", "values"),
                                     (name, node.lineno))

    def test_is_stands_beside_plain_words_alone(self):
        for name, node in nodes_of(ast.Compare):
            if isinstance(node.ops[0], (ast.Is, ast.IsNot)):
                self.assertIsInstance(node.comparators[0], ast.Constant, (name, node.lineno))

    def test_short_comprehensions(self):
        for name, node in nodes_of(ast.ListComp):
            self.assertEqual(len(node.generators), 1, (name, node.lineno))
            self.assertLessEqual(len(node.generators[0].ifs), 1, (name, node.lineno))

    def test_plain_names_in_texts(self):
        for name, node in nodes_of(ast.FormattedValue):
            self.assertIsInstance(node.value, ast.Name, (name, node.lineno))
            self.assertIsNone(node.format_spec, (name, node.lineno))

    def test_one_target_in_an_assignment(self):
        for name, node in nodes_of(ast.Assign):
            self.assertEqual(len(node.targets), 1, (name, node.lineno))
            self.assertNotIsInstance(node.targets[0], (ast.Tuple, ast.List), (name, node.lineno))

    def test_nothing_is_called_like_an_import_or_a_def_of_its_file(self):
        for name, tree in trees():
            taken = {one.name for node in ast.walk(tree) if isinstance(node, ast.ImportFrom) for one in node.names}
            taken |= {node.name for node in tree.body if isinstance(node, (ast.FunctionDef, ast.ClassDef))}
            for node in ast.walk(tree):
                if isinstance(node, ast.arg):
                    self.assertNotIn(node.arg, taken, (name, node.lineno))
                if isinstance(node, ast.Name) and isinstance(node.ctx, ast.Store):
                    self.assertNotIn(node.id, taken, (name, node.lineno))

    def test_no_two_files_draw_from_one_another(self):
        drawn = {f"leafsay.{name[:-3]}": [node.module for node in tree.body if isinstance(node, ast.ImportFrom)]
                 for name, tree in trees()}
        while drawn:
            free = [name for name in drawn if not any(other in drawn for other in drawn[name])]
            self.assertTrue(free, drawn)
            for name in free:
                drawn.pop(name)

    def test_texts_by_themselves_stand_only_at_a_files_top(self):
        for name, tree in trees():
            self.assertIsNotNone(ast.get_docstring(tree), name)
            for node in ast.walk(tree):
                if isinstance(node, ast.Expr) and not isinstance(node.value, ast.Call):
                    self.assertIs(node, tree.body[0], (name, node.lineno))


if __name__ == "__main__":
    unittest.main()
