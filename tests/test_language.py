"""What a test can see of the part of Python that the package keeps to."""

import ast
import re
import unittest
from pathlib import Path

PACKAGE = Path(__file__).resolve().parent.parent / "stormgate"
FILES = sorted(PACKAGE.glob("*.py"))

# L6 and L7, by the names that Python's own reader gives to what a file holds.
FORMS = set(
    "Module Expr Constant Import ImportFrom alias FunctionDef arguments arg ClassDef Lambda "
    "Assign AugAssign If While For Return Break Continue Pass Raise Try ExceptHandler Call "
    "Name Load Store Attribute Subscript Slice List Tuple Dict Set ListComp comprehension "
    "BinOp Add Sub Mult FloorDiv Mod Pow BitAnd BitOr BitXor LShift RShift "
    "UnaryOp USub Not Invert BoolOp And Or IfExp JoinedStr FormattedValue "
    "Compare Eq NotEq Lt LtE Gt GtE Is IsNot In NotIn".split()
)
# L8, as far as the package calls for it.
PYTHONS_OWN = set("len range enumerate zip min max reversed list".split())
# L25, as far as the package calls for it.
PYTHONS_METHODS = {"append", "extend"}
# L17: words that stand nowhere in a file.
WORDS = re.compile(
    r"\b(type|typing|typing_extensions|enum|Enum|IntEnum|StrEnum|Flag|IntFlag|Generic|Protocol|ABC|ABCMeta"
    r"|namedtuple|NamedTuple|TypedDict|TYPE_CHECKING|abstractmethod)\b|dataclass|overload|contextmanager"
)


def trees():
    return [(path.name, ast.parse(path.read_text("ascii"))) for path in FILES]


def nodes(*kinds):
    return [(name, node) for name, tree in trees() for node in ast.walk(tree) if isinstance(node, kinds)]


class Files(unittest.TestCase):
    def test_plain_files_alone(self):
        names = [path.name for path in PACKAGE.iterdir() if path.name != "__pycache__"]
        self.assertEqual(sorted(names), [path.name for path in FILES])
        for name in names:
            self.assertRegex(name, r"^([a-z][a-z0-9_]*|__init__)\.py$")

    def test_size_and_signs(self):
        for path in FILES:
            rows = path.read_bytes().decode("ascii").split("\n")
            self.assertLessEqual(len(rows), 399, path.name)
            for row in rows:
                self.assertLessEqual(len(row), 120, path.name)
                self.assertRegex(row, r"^[ -~]*$", path.name)
                self.assertNotRegex(row, WORDS, path.name)

    def test_functions_of_at_most_forty_lines(self):
        for name, node in nodes(ast.FunctionDef):
            self.assertLessEqual(node.end_lineno - node.lineno + 1, 40, (name, node.name))


class Forms(unittest.TestCase):
    def test_no_other_form(self):
        for name, node in nodes(ast.AST):
            self.assertIn(node.__class__.__name__, FORMS, (name, getattr(node, "lineno", 0)))

    def test_values(self):
        for name, node in nodes(ast.Constant):
            self.assertIn(node.value.__class__, (int, str, bool, None.__class__), (name, node.lineno))

    def test_one_target(self):
        for name, node in nodes(ast.Assign):
            self.assertEqual(len(node.targets), 1, (name, node.lineno))

    def test_plain_parameters(self):
        for name, node in nodes(ast.FunctionDef):
            given = node.args
            self.assertFalse(given.vararg or given.kwarg or given.kwonlyargs or given.posonlyargs, name)
            self.assertFalse(node.decorator_list or node.returns, (name, node.name))

    def test_documented(self):
        for name, tree in trees():
            self.assertTrue(ast.get_docstring(tree), name)
        for name, node in nodes(ast.FunctionDef, ast.ClassDef):
            self.assertTrue(node.name == "__init__" or ast.get_docstring(node), (name, node.name))


class Names(unittest.TestCase):
    def test_names_of_the_program_or_pythons_own_that_are_in(self):
        for name, tree in trees():
            bound = {node.id for node in ast.walk(tree) if isinstance(node, ast.Name) and isinstance(node.ctx, ast.Store)}
            bound |= {node.arg for node in ast.walk(tree) if isinstance(node, ast.arg)}
            bound |= {node.name for node in ast.walk(tree) if isinstance(node, (ast.FunctionDef, ast.ClassDef, ast.alias))}
            self.assertEqual(bound & PYTHONS_OWN, set(), name)
            used = {node.id for node in ast.walk(tree) if isinstance(node, ast.Name)}
            self.assertEqual(used - bound - PYTHONS_OWN, set(), name)

    def test_plain_names(self):
        for name, node in nodes(ast.FunctionDef, ast.ClassDef):
            self.assertRegex(node.name, r"^([A-Za-z][A-Za-z0-9_]*|__init__)$", name)
        for name, node in nodes(ast.Name):
            self.assertRegex(node.id, r"^[A-Za-z][A-Za-z0-9_]*$", name)

    def test_methods(self):
        own = {node.name for name, node in nodes(ast.FunctionDef)}
        for name, node in nodes(ast.Call):
            if isinstance(node.func, ast.Attribute):
                self.assertIn(node.func.attr, own | PYTHONS_METHODS, (name, node.lineno))

    def test_no_name_is_a_method_and_a_value(self):
        methods = {
            part.name for name, node in nodes(ast.ClassDef) for part in node.body if isinstance(part, ast.FunctionDef)
        }
        values = {node.attr for name, node in nodes(ast.Attribute) if isinstance(node.ctx, ast.Store)}
        self.assertEqual(methods & values, set())


class Imports(unittest.TestCase):
    def drawn(self):
        """For each file of the package the files that it draws from, with the names."""
        found = {name[:-3]: [] for name, tree in trees()}
        for name, node in nodes(ast.Import, ast.ImportFrom):
            self.assertIsInstance(node, ast.ImportFrom, name)
            self.assertEqual((node.level, node.module.split(".")[0]), (0, "stormgate"), name)
            found[name[:-3]].append((node.module.split(".")[1], [part.name for part in node.names]))
        return found

    def test_from_the_file_that_defines_the_name(self):
        tops = {}
        for name, tree in trees():
            tops[name[:-3]] = {node.name for node in tree.body if isinstance(node, (ast.FunctionDef, ast.ClassDef))}
            tops[name[:-3]] |= {node.targets[0].id for node in tree.body if isinstance(node, ast.Assign)}
        for name, rows in self.drawn().items():
            for module, names in rows:
                self.assertLessEqual(set(names), tops[module], name)

    def test_no_two_files_draw_from_one_another(self):
        left = {name: {module for module, names in rows} for name, rows in self.drawn().items()}
        while left:
            free = [name for name, modules in left.items() if not modules & set(left)]
            self.assertTrue(free, left)
            for name in free:
                left.pop(name)


class Interface(unittest.TestCase):
    def test_answers_is_written_in_polder_alone(self):
        written = [
            (name, [given.arg for given in node.args.args], node.args.defaults)
            for name, tree in trees() for node in tree.body
            if isinstance(node, ast.FunctionDef) and node.name == "answers"
        ]
        self.assertEqual(written, [("polder.py", ["calls"], [])])


if __name__ == "__main__":
    unittest.main()
