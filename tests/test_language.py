# The rules of ../shared/LANGUAGE.md that a walk over the package's files can see.
import ast
import builtins
import pathlib
import re
import unittest

PACKAGE = pathlib.Path(__file__).resolve().parent.parent / "warmshare"

NODES = """Module Expr ImportFrom alias FunctionDef ClassDef arguments arg Assign AugAssign If While For Return Break
Continue Pass Raise Try ExceptHandler Constant List Tuple Dict Set BinOp UnaryOp BoolOp Compare IfExp Call keyword
Attribute Subscript Slice ListComp comprehension JoinedStr FormattedValue Lambda Name Load Store
Add Sub Mult FloorDiv Mod Pow LShift RShift BitOr BitAnd BitXor Invert USub UAdd Not And Or
Eq NotEq Lt LtE Gt GtE In NotIn Is IsNot""".split()
OWN_NAMES = """len range enumerate zip min max sum abs sorted reversed int str bool list tuple dict set frozenset isinstance
ord repr any all divmod Exception ValueError TypeError KeyError IndexError LookupError ZeroDivisionError
ArithmeticError OverflowError RuntimeError NotImplementedError AttributeError StopIteration""".split()
METHODS = """append clear copy count endswith extend find get index insert isalnum isalpha isdigit islower isspace isupper
items join keys ljust lower lstrip partition pop remove replace reverse rfind rjust rpartition rsplit rstrip setdefault
split splitlines startswith strip update upper values zfill bit_length""".split()
METHOD_NAMES = ("__init__", "__eq__", "__repr__", "__str__", "__len__")
WORDS = re.compile(r"\b(type|typing|typing_extensions|enum|Enum|IntEnum|StrEnum|Flag|IntFlag|Generic|Protocol|ABC|ABCMeta"
                   r"|namedtuple|NamedTuple|TypedDict|TYPE_CHECKING|abstractmethod)\b|dataclass|overload|contextmanager")


def sources():
    return [(path, path.read_text(encoding="utf-8")) for path in sorted(PACKAGE.rglob("*.py"))]


def nodes():
    return [(path.name, node) for path, source in sources() for node in ast.walk(ast.parse(source))]


# Each node with the one it stands in.
def with_parents():
    return [(path.name, parent, node) for path, source in sources() for parent in ast.walk(ast.parse(source))
            for node in ast.iter_child_nodes(parent)]


def called(node):
    return node.func.id if isinstance(node, ast.Call) and isinstance(node.func, ast.Name) else None


def of_kind(*kinds):
    return [(name, node) for name, node in nodes() if isinstance(node, kinds)]


def bound_names():
    found = []
    for name, node in nodes():
        if isinstance(node, ast.Name) and isinstance(node.ctx, ast.Store):
            found.append((name, node.id))
        elif isinstance(node, ast.arg):
            found.append((name, node.arg))
        elif isinstance(node, (ast.FunctionDef, ast.ClassDef)) and node.name not in METHOD_NAMES:
            found.append((name, node.name))
    return found


class Language(unittest.TestCase):
    def test_only_plain_files_lie_in_the_package(self):
        for path in PACKAGE.rglob("*"):
            if path.is_file() and "__pycache__" not in path.parts:
                self.assertRegex(path.name, r"^(__init__|__main__|[a-z][a-z0-9_]*)\.py$")

    def test_signs_lines_and_sizes(self):
        for path, source in sources():
            self.assertRegex(source, r"\A[ -~\n]*\Z", path.name)
            self.assertIsNone(WORDS.search(source), path.name)
            lines = source.splitlines()
            self.assertLessEqual(len(lines), 400, path.name)
            self.assertLessEqual(max(map(len, lines), default=0), 120, path.name)
        for name, node in of_kind(ast.FunctionDef):
            self.assertLessEqual(node.end_lineno - node.lineno + 1, 40, (name, node.name))

    def test_only_the_small_part_is_used(self):
        for name, node in nodes():
            self.assertIn(node.__class__.__name__, NODES, (name, getattr(node, "lineno", None)))

    def test_imports_are_from_the_very_file(self):
        for name, node in of_kind(ast.ImportFrom):
            self.assertEqual(node.level, 0, name)
            self.assertRegex(node.module, r"^warmshare\.[a-z]", name)
            source = (PACKAGE / (node.module.split(".")[1] + ".py")).read_text(encoding="utf-8")
            for alias in node.names:
                self.assertIsNone(alias.asname, name)
                self.assertRegex(source, rf"(?m)^(def |class )?{alias.name}\b", name)

    def test_statements(self):
        for name, node in of_kind(ast.Assign, ast.For, ast.While, ast.Try, ast.ExceptHandler, ast.FunctionDef):
            self.assertEqual(len(getattr(node, "targets", [node])), 1, name)
            self.assertFalse(isinstance(node, (ast.For, ast.While)) and node.orelse, name)
            self.assertFalse(getattr(node, "finalbody", []), name)
            self.assertFalse(getattr(node, "decorator_list", []), name)
            self.assertFalse(isinstance(node, ast.ExceptHandler) and node.type is None, name)
        for name, node in of_kind(ast.arguments):
            self.assertFalse(node.vararg or node.kwarg or node.kwonlyargs or node.posonlyargs, name)

    def test_expressions(self):
        for name, node in of_kind(ast.ListComp):
            self.assertEqual(len(node.generators), 1, name)
            self.assertLessEqual(len(node.generators[0].ifs), 1, name)
        for name, node in of_kind(ast.FormattedValue):
            self.assertIsInstance(node.value, ast.Name, name)
            self.assertIsNone(node.format_spec, name)
        for name, node in of_kind(ast.Constant):
            self.assertIn(node.value.__class__, (int, str, bool, None.__class__), name)
            self.assertNotIn("%", str(node.value), name)

    def test_names(self):
        for name, bound in bound_names():
            self.assertRegex(bound, r"^[A-Za-z][A-Za-z0-9_]*$", name)
            self.assertFalse(hasattr(builtins, bound), (name, bound))
        for name, node in of_kind(ast.Name):
            if hasattr(builtins, node.id):
                self.assertIn(node.id, OWN_NAMES, name)

    def test_methods(self):
        own = [node.name for name, node in of_kind(ast.FunctionDef)]
        for name, node in of_kind(ast.Call):
            if isinstance(node.func, ast.Attribute):
                self.assertIn(node.func.attr, METHODS + own, name)

    def test_what_is_walked_at_once(self):
        takers = ("list", "tuple", "dict", "sorted", "sum", "any", "all", "enumerate", "zip")
        for name, parent, node in with_parents():
            walked = called(node) in ("zip", "enumerate", "reversed", "range") or isinstance(node, ast.Call) and (
                isinstance(node.func, ast.Attribute) and node.func.attr in ("items", "keys", "values"))
            if walked and not isinstance(parent, (ast.For, ast.comprehension)):
                self.assertTrue(called(parent) in takers and parent.args[0] is node
                                or called(parent) in ("min", "max") and parent.args == [node], (name, node.lineno))

    def test_sets_are_not_kept(self):
        for name, parent, node in with_parents():
            if called(node) == "set":
                self.assertTrue(called(parent) in ("len", "sorted") and not parent.keywords
                                or isinstance(parent, ast.Compare), (name, node.lineno))

    def test_is_stands_beside_none_true_and_false_alone(self):
        for name, node in of_kind(ast.Compare):
            for sign, right in zip(node.ops, node.comparators):
                if isinstance(sign, (ast.Is, ast.IsNot)):
                    self.assertIn(ast.unparse(right), ("None", "True", "False"), (name, node.lineno))

    def test_no_two_files_draw_from_one_another(self):
        drawn = {path.stem: set() for path, source in sources()}
        for name, node in of_kind(ast.ImportFrom):
            drawn[name.removesuffix(".py")].add(node.module.split(".")[1])
        while drawn:
            free = [name for name in drawn if not drawn[name] & set(drawn)]
            self.assertTrue(free, drawn)
            for name in free:
                drawn.pop(name)


if __name__ == "__main__":
    unittest.main()
