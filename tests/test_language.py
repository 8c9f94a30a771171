"""The rules of the language that a walk over the package's files can see."""

import ast
import builtins
import pathlib
import re
import unittest

PACKAGE = pathlib.Path(__file__).resolve().parent.parent / "cuereferee"
FILES = sorted(PACKAGE.glob("*.py"))

NODES = """Module Expr Constant ImportFrom alias FunctionDef ClassDef arguments arg Lambda Assign AugAssign If While For
Return Break Continue Pass Raise Try ExceptHandler Call Name Attribute Subscript Slice List Tuple Dict Set ListComp
comprehension IfExp BoolOp BinOp UnaryOp Compare JoinedStr FormattedValue keyword Load Store And Or Not USub Invert Add
Sub Mult FloorDiv Mod Pow BitAnd BitOr BitXor LShift RShift Eq NotEq Lt LtE Gt GtE In NotIn Is IsNot""".split()
OWN_NAMES = """len range enumerate zip min max sum abs sorted reversed int str bool list tuple dict set isinstance ord
repr any all divmod Exception ValueError KeyError IndexError LookupError ZeroDivisionError ArithmeticError OverflowError
RuntimeError NotImplementedError StopIteration""".split()
PYTHON_METHODS = """append clear copy count endswith extend find get index insert isalnum isalpha isdigit islower
isspace isupper items join keys ljust lower lstrip partition pop remove replace reverse rfind rjust rpartition rsplit rstrip
setdefault split splitlines startswith strip update upper values zfill bit_length""".split()
WORDS = r"\b(type|typing|typing_extensions|enum|Enum|IntEnum|StrEnum|Flag|IntFlag|Generic|Protocol|ABC|ABCMeta|" \
        r"namedtuple|NamedTuple|TypedDict|TYPE_CHECKING|abstractmethod)\b|dataclass|overload|contextmanager"


def nodes_of(kind, path):
    return [node for node in ast.walk(ast.parse(path.read_text())) if isinstance(node, kind)]


class Language(unittest.TestCase):
    def test_nothing_but_plain_files_lies_in_the_package(self):
        names = sorted(path.name for path in PACKAGE.iterdir() if path.name != "__pycache__")
        self.assertEqual(names, [path.name for path in FILES])
        for name in names:
            self.assertRegex(name, r"^(__init__|[a-z][a-z0-9_]*)\.py$")
            self.assertFalse(name[:-3] in dir(builtins) or name.startswith("test"), name)

    def test_signs_and_sizes(self):
        for path in FILES:
            text = path.read_text()
            self.assertRegex(text, r"\A[ -~\n]*\Z", path)
            self.assertIsNone(re.search(WORDS, text), path)
            self.assertLessEqual(len(text.splitlines()), 400, path)
            self.assertLessEqual(max(len(line) for line in text.splitlines()), 120, path)
            for node in nodes_of(ast.FunctionDef, path):
                self.assertLessEqual(node.end_lineno - node.lineno + 1, 40, node.name)

    def test_statements_and_expressions(self):
        for path in FILES:
            for node in nodes_of(ast.AST, path):
                self.assertIn(type(node).__name__, NODES, path)
                if isinstance(node, (ast.FunctionDef, ast.ClassDef)):
                    self.assertEqual(node.decorator_list, [])
                if isinstance(node, (ast.For, ast.While)):
                    self.assertEqual(node.orelse, [])
                if isinstance(node, ast.Assign):
                    self.assertEqual(len(node.targets), 1)
            for node in nodes_of(ast.Expr, path):
                self.assertTrue(isinstance(node.value, ast.Call) or node.lineno == 1, path)

    def test_imports(self):
        drawn = {}
        for path in FILES:
            module = "cuereferee." + path.stem
            drawn[module] = [node.module for node in nodes_of(ast.ImportFrom, path)]
            for node in nodes_of(ast.ImportFrom, path):
                self.assertEqual(node.level, 0)
                source = PACKAGE / (node.module.removeprefix("cuereferee.") + ".py")
                defined = [one.name for one in nodes_of((ast.FunctionDef, ast.ClassDef), source)]
                defined += [one.targets[0].id for one in ast.parse(source.read_text()).body
                            if isinstance(one, ast.Assign)]
                for one in node.names:
                    self.assertIn(one.name, defined)
        while drawn:
            free = [module for module in drawn if not set(drawn[module]) & set(drawn)]
            self.assertNotEqual(free, [], "files draw from one another")
            drawn = {module: drawn[module] for module in drawn if module not in free}

    def test_names(self):
        for path in FILES:
            imported = [one.name for node in nodes_of(ast.ImportFrom, path) for one in node.names]
            classes = [node.name for node in nodes_of(ast.ClassDef, path)]
            bound = [node.arg for node in nodes_of(ast.arg, path)]
            bound += [node.id for node in nodes_of(ast.Name, path) if isinstance(node.ctx, ast.Store)]
            for name in bound:
                self.assertFalse(name in imported + classes + dir(builtins) or name.startswith("_"), name)
            for node in nodes_of(ast.Name, path):
                self.assertTrue(node.id in OWN_NAMES or node.id not in dir(builtins), node.id)

    def test_methods_and_values(self):
        methods = []
        values = []
        called = []
        for path in FILES:
            for one in nodes_of(ast.ClassDef, path):
                methods += [node.name for node in one.body if isinstance(node, ast.FunctionDef)]
            attributes = nodes_of(ast.Attribute, path)
            values += [node.attr for node in attributes if isinstance(node.ctx, ast.Store)]
            called += [node.func.attr for node in nodes_of(ast.Call, path) if isinstance(node.func, ast.Attribute)]
        self.assertEqual(set(methods) & set(values), set())
        self.assertEqual(set(called) - set(methods) - set(PYTHON_METHODS), set())
        for kind in (str, int, list, dict, set, bytes):
            self.assertEqual((set(methods) | set(values)) & set(dir(kind)) - {"__init__"}, set())
