"""That the package keeps to the small part of Python it is written in, as far as a look at its files can tell."""

import ast
import builtins
import re
import unittest
from pathlib import Path

PACKAGE = Path(__file__).resolve().parent.parent / "linepatches"

NODES = (
    "Module FunctionDef arguments arg ClassDef Import ImportFrom alias Assign AugAssign If While For Return Break "
    "Continue Pass Raise Try ExceptHandler Expr Constant Name Attribute Subscript Slice List Tuple Dict Set BinOp "
    "UnaryOp BoolOp Compare IfExp Call keyword Lambda ListComp comprehension JoinedStr FormattedValue Load Store "
    "And Or Not USub Add Sub Mult FloorDiv Mod Pow BitAnd BitOr BitXor LShift RShift Invert Eq NotEq Lt LtE Gt GtE "
    "Is IsNot In NotIn"
).split()
PYTHON_NAMES = (
    "len range enumerate zip min max sum abs sorted reversed int str bool list tuple dict set frozenset isinstance "
    "ord repr any all divmod Exception ValueError TypeError KeyError IndexError LookupError ZeroDivisionError "
    "ArithmeticError OverflowError RuntimeError NotImplementedError AttributeError StopIteration"
).split()
PYTHON_METHODS = (
    "append clear copy count endswith extend find get index insert isalnum isalpha isdigit islower isspace isupper "
    "items join keys ljust lower lstrip partition pop remove replace reverse rfind rjust rpartition rsplit rstrip "
    "setdefault split splitlines startswith strip update upper values zfill bit_length __init__"
).split()
UNUSED_NAMES = (
    "register mro elements open input version_info with_traceback add_note attrgetter breakpoint builtins compile "
    "copyright credits delattr dir eval exec exit gc getattr globals hasattr help id importlib license locals "
    "methodcaller os quit setattr super type vars sys chr"
).split()
UNUSED_WORDS = re.compile(
    r"\b(type|typing|typing_extensions|enum|Enum|IntEnum|StrEnum|Flag|IntFlag|Generic|Protocol|ABC|ABCMeta|"
    r"namedtuple|NamedTuple|TypedDict|TYPE_CHECKING|abstractmethod)\b|dataclass|overload|contextmanager"
)


def files():
    return sorted(path for path in PACKAGE.rglob("*") if "__pycache__" not in path.parts)


def trees():
    return [(path.name, ast.parse(path.read_text(encoding="ascii"))) for path in files()]


def nodes(*kinds):
    for name, tree in trees():
        for node in ast.walk(tree):
            if isinstance(node, kinds):
                yield f"{name}:{getattr(node, 'lineno', 0)}", node


class Files(unittest.TestCase):
    def test_files_alone(self):
        self.assertIn("__init__.py", [path.name for path in files()])
        for path in files():
            self.assertTrue(path.is_file() and re.fullmatch(r"[a-z0-9_]+\.py", path.name), path)
            self.assertTrue(path.name == "__init__.py" or not hasattr(builtins, path.stem), path)

    def test_sizes_and_signs(self):
        for path in files():
            rows = path.read_bytes().decode("ascii").split("\n")
            self.assertLessEqual(len(rows), 399, path)
            for row in rows:
                self.assertLessEqual(len(row), 120, (path, row))
                self.assertTrue(all(" " <= sign <= "~" for sign in row), (path, row))
                self.assertIsNone(UNUSED_WORDS.search(row), (path, row))

    def test_sizes_of_functions(self):
        for where, node in nodes(ast.FunctionDef):
            self.assertLessEqual(node.end_lineno - node.lineno + 1, 40, where)

    def test_docstrings(self):
        for where, node in nodes(ast.Module, ast.FunctionDef, ast.ClassDef):
            if getattr(node, "name", "") != "__init__":
                self.assertTrue(ast.get_docstring(node), where)


class Forms(unittest.TestCase):
    def test_kinds_of_statements_and_expressions(self):
        for where, node in nodes(ast.AST):
            self.assertIn(node.__class__.__name__, NODES, where)

    def test_no_narrower_forms(self):
        for where, node in nodes(ast.Assign):
            self.assertEqual(len(node.targets), 1, where)
        for where, node in nodes(ast.For, ast.While):
            self.assertEqual(node.orelse, [], where)
        for where, node in nodes(ast.Try):
            self.assertEqual(node.finalbody, [], where)
        for where, node in nodes(ast.FunctionDef, ast.ClassDef):
            self.assertEqual(node.decorator_list, [], where)
        for where, node in nodes(ast.Constant):
            self.assertIn(node.value.__class__, (int, str, bool, None.__class__), where)

    def test_parameters(self):
        for where, node in nodes(ast.arguments):
            self.assertEqual((node.vararg, node.kwarg, node.kwonlyargs, node.posonlyargs), (None, None, [], []), where)

    def test_tops_of_files(self):
        for name, tree in trees():
            bound = []
            for node in tree.body:
                self.assertIsInstance(node, (ast.Expr, ast.ImportFrom, ast.FunctionDef, ast.ClassDef, ast.Assign), name)
                if isinstance(node, ast.ImportFrom):
                    bound += [one.name for one in node.names]
                elif isinstance(node, ast.Assign):
                    bound += [target.id for target in node.targets]
                    inner = [one for one in ast.walk(node.value) if one is not node.value]
                    self.assertFalse([one for one in inner if isinstance(one, (ast.List, ast.Dict))], name)
                elif not isinstance(node, ast.Expr):
                    bound.append(node.name)
            self.assertEqual(len(bound), len(set(bound)), name)

    def test_imports_draw_from_the_file_that_defines_the_name(self):
        defined = {name: {getattr(node, "name", None) or getattr(node.targets[0], "id", None)
                          for node in tree.body if isinstance(node, (ast.FunctionDef, ast.ClassDef, ast.Assign))}
                   for name, tree in trees()}
        self.assertEqual(list(nodes(ast.Import)), [])
        for where, node in nodes(ast.ImportFrom):
            self.assertEqual(node.level, 0, where)
            self.assertRegex(node.module, r"^linepatches\.[a-z0-9_]+$", where)
            source = node.module.partition(".")[2] + ".py"
            for one in node.names:
                self.assertIsNone(one.asname, where)
                self.assertIn(one.name, defined[source], where)


class Names(unittest.TestCase):
    def test_names_bound(self):
        for where, node in nodes(ast.Name, ast.arg, ast.FunctionDef, ast.ClassDef):
            name = getattr(node, "id", None) or getattr(node, "arg", None) or getattr(node, "name", None)
            if name == "__init__":
                continue
            self.assertFalse(name.startswith("_"), where)
            self.assertNotIn(name, UNUSED_NAMES, where)
            if not isinstance(node, ast.Name) or isinstance(node.ctx, ast.Store):
                self.assertFalse(hasattr(builtins, name), where)

    def test_pythons_own_names(self):
        for where, node in nodes(ast.Name):
            if hasattr(builtins, node.id):
                self.assertIn(node.id, PYTHON_NAMES, where)

    def test_methods_and_values(self):
        methods = {one.name for where, node in nodes(ast.ClassDef) for one in node.body
                   if isinstance(one, ast.FunctionDef)}
        values = {node.attr for where, node in nodes(ast.Attribute) if isinstance(node.ctx, ast.Store)}
        pythons = {name for kind in (str, int, list, dict, set, bytes) for name in dir(kind)}
        self.assertEqual(methods & values, set())
        self.assertEqual((methods | values) & pythons, {"__init__"})
        for where, node in nodes(ast.Attribute):
            self.assertIn(node.attr, methods | values | set(PYTHON_METHODS), where)
            self.assertNotIn(node.attr, UNUSED_NAMES, where)

    def test_the_interface_stands_in_its_file(self):
        places = [(name, node) for name, tree in trees() for node in tree.body
                  if getattr(node, "name", "") == "answers"]
        self.assertEqual([name for name, node in places], ["patches.py"])
        signature = places[0][1].args
        self.assertEqual([one.arg for one in signature.args], ["calls"])
        self.assertEqual(signature.defaults, [])


if __name__ == "__main__":
    unittest.main()
