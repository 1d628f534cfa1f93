"""Holds the package's files against the rules of LANGUAGE.md that can be read off the code."""

import ast
import builtins
import pathlib
import re
import unittest

PACKAGE = pathlib.Path(__file__).resolve().parent.parent / "beadnets"

STATEMENTS = {
    "Module", "ImportFrom", "FunctionDef", "ClassDef", "Assign", "AugAssign", "If", "While", "For", "Return",
    "Break", "Continue", "Pass", "Raise", "Try", "ExceptHandler", "Expr",
}
EXPRESSIONS = {
    "Constant", "List", "Tuple", "Dict", "Set", "BinOp", "UnaryOp", "BoolOp", "Compare", "IfExp", "Call",
    "Attribute", "Subscript", "Slice", "ListComp", "comprehension", "JoinedStr", "FormattedValue", "Name",
    "Lambda", "arguments", "arg", "keyword", "alias", "Load", "Store",
    "Add", "Sub", "Mult", "FloorDiv", "Mod", "Pow", "BitAnd", "BitOr", "BitXor", "LShift", "RShift", "Invert",
    "USub", "UAdd", "Not", "And", "Or", "Eq", "NotEq", "Lt", "LtE", "Gt", "GtE", "Is", "IsNot", "In", "NotIn",
}
OWN_NAMES_OF_PYTHON = set(
    "len range enumerate zip min max sum abs sorted reversed int str bool list tuple dict set frozenset isinstance"
    " ord repr any all divmod Exception ValueError TypeError KeyError IndexError LookupError ZeroDivisionError"
    " ArithmeticError OverflowError RuntimeError NotImplementedError AttributeError StopIteration".split()
)
METHODS = set(
    "append clear copy count endswith extend find get index insert isalnum isalpha isdigit islower isspace isupper"
    " items join keys ljust lower lstrip partition pop remove replace reverse rfind rjust rpartition rsplit rstrip"
    " setdefault split splitlines startswith strip update upper values zfill bit_length".split()
)
WALKED_AT_ONCE = ("zip", "enumerate", "reversed", "range")
WALKERS = ("list", "tuple", "dict", "sorted", "sum", "any", "all", "enumerate", "zip", "min", "max")
WORDS_NOWHERE = (
    r"\b(type|typing|typing_extensions|enum|Enum|IntEnum|StrEnum|Flag|IntFlag|Generic|Protocol|ABC|ABCMeta"
    r"|namedtuple|NamedTuple|TypedDict|TYPE_CHECKING|abstractmethod)\b|dataclass|overload|contextmanager"
)
NAMES_NOWHERE = {"register", "mro", "elements", "open", "input", "version_info", "with_traceback", "add_note"}


def files():
    return sorted(PACKAGE.glob("*.py"))


def bound_names(tree):
    for node in ast.walk(tree):
        if isinstance(node, ast.arg):
            yield node.arg
        elif isinstance(node, ast.Name) and isinstance(node.ctx, ast.Store):
            yield node.id
        elif isinstance(node, (ast.FunctionDef, ast.ClassDef)):
            yield node.name


def own_methods():
    found = set()
    for path in files():
        for node in ast.walk(ast.parse(path.read_text())):
            if isinstance(node, ast.ClassDef):
                found.update(each.name for each in node.body if isinstance(each, ast.FunctionDef))
    return found


def each_node():
    for path in files():
        for node in ast.walk(ast.parse(path.read_text())):
            yield f"{path.name} line {getattr(node, 'lineno', 0)}", node


class Language(unittest.TestCase):
    def test_files(self):
        names = {path.name for path in PACKAGE.iterdir() if path.name != "__pycache__"}
        self.assertIn("__init__.py", names)
        for name in names:
            self.assertRegex(name, r"^[a-z0-9_]+\.py$")

    def test_size_and_signs(self):
        for path in files():
            lines = path.read_text().split("\n")
            self.assertLessEqual(len(lines), 400, path.name)
            for line in lines:
                self.assertLessEqual(len(line), 120, line)
                self.assertRegex(line, r"^[ -~]*$")
                self.assertNotRegex(line, WORDS_NOWHERE)

    def test_only_the_allowed_forms(self):
        for place, node in each_node():
            with self.subTest(place):
                self.assertIn(type(node).__name__, STATEMENTS | EXPRESSIONS)
                if isinstance(node, ast.FunctionDef):
                    self.assertLessEqual(node.end_lineno - node.lineno + 1, 40)
                    self.assertEqual(node.decorator_list, [])
                    self.assertIsNone(node.returns)
                if isinstance(node, ast.arguments):
                    self.assertFalse(node.vararg or node.kwarg or node.kwonlyargs or node.posonlyargs)
                if isinstance(node, ast.arg):
                    self.assertIsNone(node.annotation)
                if isinstance(node, (ast.For, ast.While)):
                    self.assertEqual(node.orelse, [])
                if isinstance(node, ast.Assign):
                    self.assertEqual(len(node.targets), 1)
                if isinstance(node, ast.ListComp):
                    self.assertEqual(len(node.generators), 1)
                    self.assertLessEqual(len(node.generators[0].ifs), 1)
                if isinstance(node, ast.Constant):
                    self.assertIn(type(node.value), (int, str, bool, type(None)))
                if isinstance(node, ast.Compare) and any(isinstance(sign, (ast.Is, ast.IsNot)) for sign in node.ops):
                    self.assertIsInstance(node.comparators[0], ast.Constant)

    def test_imports(self):
        for place, node in each_node():
            with self.subTest(place):
                if isinstance(node, ast.ImportFrom):
                    self.assertEqual(node.level, 0)
                    self.assertRegex(node.module, r"^beadnets\.[a-z]+$")
                    source = ast.parse((PACKAGE / (node.module.split(".")[1] + ".py")).read_text())
                    defined = {each.name for each in source.body if isinstance(each, (ast.FunctionDef, ast.ClassDef))}
                    for alias in node.names:
                        self.assertIn(alias.name, defined)

    def test_no_files_draw_from_one_another(self):
        drawn = {path.stem: {node.module.split(".")[1] for node in ast.walk(ast.parse(path.read_text()))
                             if isinstance(node, ast.ImportFrom)} for path in files()}
        while drawn:
            free = [name for name in drawn if not drawn[name] & set(drawn)]
            self.assertTrue(free, "files draw from one another: " + ", ".join(sorted(drawn)))
            for name in free:
                drawn.pop(name)

    def test_the_top_of_a_file(self):
        for path in files():
            body = ast.parse(path.read_text()).body
            self.assertIsInstance(body[0], ast.Expr, path.name)
            for node in body[1:]:
                self.assertIsInstance(node, (ast.ImportFrom, ast.FunctionDef, ast.ClassDef, ast.Assign), path.name)
                if isinstance(node, ast.Assign):
                    self.assertIsInstance(node.value, ast.Constant)

    def test_each_name_once(self):
        for path in files():
            tree = ast.parse(path.read_text())
            imported = [alias.asname or alias.name for node in tree.body if isinstance(node, ast.ImportFrom)
                        for alias in node.names]
            defined = [node.name for node in tree.body if isinstance(node, (ast.FunctionDef, ast.ClassDef))]
            given = [name.id for node in tree.body if isinstance(node, ast.Assign) for name in node.targets]
            at_top = imported + defined + given
            self.assertEqual(len(at_top), len(set(at_top)), path.name)
            bound = list(bound_names(tree))
            for name in at_top:
                self.assertEqual(bound.count(name), 0 if name in imported else 1, f"{path.name} {name}")

    def test_no_sets_and_no_reckoned_powers(self):
        for place, node in each_node():
            with self.subTest(place):
                self.assertNotIsInstance(node, ast.Set)
                if isinstance(node, ast.Name):
                    self.assertNotIn(node.id, ("set", "frozenset"))
                if isinstance(node, ast.BinOp) and isinstance(node.op, ast.Pow):
                    self.assertIn(getattr(node.right, "value", None), range(65))
                if isinstance(node, ast.Constant) and isinstance(node.value, str):
                    self.assertNotIn("%", node.value)

    def test_names(self):
        for path in files():
            tree = ast.parse(path.read_text())
            for name in bound_names(tree):
                self.assertRegex(name, r"^([A-Za-z][A-Za-z0-9_]*|__init__)$")
                self.assertNotIn(name, dir(builtins))
                self.assertNotIn(name, NAMES_NOWHERE)
        for place, node in each_node():
            with self.subTest(place):
                if isinstance(node, ast.Name) and node.id in dir(builtins):
                    self.assertIn(node.id, OWN_NAMES_OF_PYTHON)

    def test_methods_and_values(self):
        own = own_methods()
        taken = set()
        for kind in (str, int, list, dict, set, bytes):
            taken.update(dir(kind))
        self.assertEqual((own - {"__init__"}) & taken, set())
        for place, node in each_node():
            with self.subTest(place):
                if isinstance(node, ast.Call) and isinstance(node.func, ast.Attribute):
                    self.assertIn(node.func.attr, METHODS | own)
                if isinstance(node, ast.Attribute) and isinstance(node.ctx, ast.Store):
                    self.assertNotIn(node.attr, taken | own)

    def test_walked_at_once(self):
        for path in files():
            tree = ast.parse(path.read_text())
            walked = set()
            for node in ast.walk(tree):
                if isinstance(node, (ast.For, ast.comprehension)):
                    walked.add(node.iter)
                if isinstance(node, ast.Call) and isinstance(node.func, ast.Name) and node.func.id in WALKERS:
                    walked.update(node.args[:1])
            for node in ast.walk(tree):
                if isinstance(node, ast.Call) and isinstance(node.func, ast.Name) and node.func.id in WALKED_AT_ONCE:
                    self.assertIn(node, walked, f"{path.name} {node.lineno}")


if __name__ == "__main__":
    unittest.main()
