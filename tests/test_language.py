"""What can be seen, file by file, of the part of Python that the package keeps to."""

import ast
import builtins
import pathlib
import re
import unittest

PACKAGE = pathlib.Path(__file__).resolve().parent.parent / "basketcost"
NODES = set("""
    Module Expr ImportFrom alias FunctionDef ClassDef arguments arg Lambda Assign AugAssign If While For Return
    Break Continue Pass Raise Try ExceptHandler Call keyword Attribute Subscript Slice Name Constant List Tuple Dict
    Load Store ListComp comprehension IfExp BoolOp And Or UnaryOp Not USub Invert BinOp Add Sub Mult FloorDiv Mod Pow
    BitAnd BitOr BitXor LShift RShift Compare Eq NotEq Lt LtE Gt GtE Is IsNot In NotIn JoinedStr FormattedValue
""".split())
BUILTINS = set("""
    len range enumerate zip min max sum abs sorted reversed int str bool list tuple dict set frozenset isinstance
    ord repr any all divmod
""".split())
METHODS = set("""
    append clear copy count endswith extend find get index insert isalnum isalpha isdigit islower isspace isupper
    items join keys ljust lower lstrip partition pop remove replace reverse rfind rjust rpartition rsplit rstrip
    setdefault split splitlines startswith strip update upper values zfill bit_length
""".split())
WORDS = re.compile(
    r"\b(type|typing|typing_extensions|enum|Enum|IntEnum|StrEnum|Flag|IntFlag|Generic|Protocol|ABC|ABCMeta"
    r"|namedtuple|NamedTuple|TypedDict|TYPE_CHECKING|abstractmethod)\b|dataclass|overload|contextmanager"
)


def package_files():
    return sorted(path for path in PACKAGE.rglob("*") if path.is_file() and "__pycache__" not in path.parts)


def nodes_of(path, *kinds):
    return [node for node in ast.walk(ast.parse(path.read_text())) if isinstance(node, kinds)]


class LanguageTest(unittest.TestCase):
    def test_files_are_plain_modules(self):
        self.assertIn(PACKAGE / "__init__.py", package_files())
        for path in package_files():
            self.assertRegex(path.name, r"\A([a-z][a-z0-9_]*|__init__)\.py\Z")

    def test_rows_and_signs(self):
        for path in package_files():
            text = path.read_bytes().decode("ascii")
            self.assertLessEqual(len(text.splitlines()), 399, path)
            self.assertLessEqual(max(len(row) for row in text.splitlines()), 120, path)
            self.assertRegex(text, r"\A[ -~\n]*\Z", path)
            self.assertNotRegex(text, WORDS, path)

    def test_statements_and_expressions(self):
        for path in package_files():
            for node in nodes_of(path, ast.AST):
                self.assertIn(node.__class__.__name__, NODES, f"{path}:{getattr(node, 'lineno', 0)}")
            for node in nodes_of(path, ast.Constant):
                self.assertIn(node.value.__class__, (int, str, bool, type(None)), path)

    def test_functions_are_short(self):
        for path in package_files():
            for node in nodes_of(path, ast.FunctionDef):
                self.assertLessEqual(node.end_lineno - node.lineno + 1, 40, f"{path}:{node.name}")
                self.assertEqual(node.decorator_list, [])

    def test_imports_are_the_packages_own(self):
        for path in package_files():
            for node in nodes_of(path, ast.ImportFrom):
                self.assertEqual(node.level, 0, path)
                self.assertRegex(node.module, r"\Abasketcost\.[a-z0-9_]+\Z", path)

    def test_names(self):
        own = {node.name for path in package_files() for node in nodes_of(path, ast.FunctionDef, ast.ClassDef)}
        for path in package_files():
            for node in nodes_of(path, ast.Name, ast.arg):
                name = node.id if isinstance(node, ast.Name) else node.arg
                self.assertRegex(name, r"\A[A-Za-z][A-Za-z0-9_]*\Z", path)
            for node in nodes_of(path, ast.Call):
                if isinstance(node.func, ast.Name):
                    self.assertIn(node.func.id, BUILTINS | own, f"{path}:{node.lineno}")
                if isinstance(node.func, ast.Attribute):
                    self.assertIn(node.func.attr, METHODS | own, f"{path}:{node.lineno}")

    def test_no_local_is_called_like_an_import_or_one_of_pythons_own(self):
        for path in package_files():
            taken = set(dir(builtins)) | {alias.name for node in nodes_of(path, ast.ImportFrom) for alias in node.names}
            taken |= {node.name for node in nodes_of(path, ast.ClassDef)}
            local = {node.arg for node in nodes_of(path, ast.arg)}
            local |= {node.id for node in nodes_of(path, ast.Name) if isinstance(node.ctx, ast.Store)}
            self.assertEqual(local & taken, set(), path)

    def test_no_name_is_a_method_and_a_value(self):
        methods, values = set(), set()
        for path in package_files():
            for node in nodes_of(path, ast.ClassDef):
                methods |= {part.name for part in node.body if isinstance(part, ast.FunctionDef)}
            values |= {node.attr for node in nodes_of(path, ast.Attribute) if isinstance(node.ctx, ast.Store)}
        self.assertEqual(methods & values, set())
        pythons = {name for kind in (int, str, list, tuple, dict, set, bytes) for name in dir(kind)} - {"__init__"}
        self.assertEqual((methods | values) & pythons, set())

    def test_files_draw_from_the_file_that_defines_the_name_and_not_from_one_another(self):
        drawn = {}
        for path in package_files():
            drawn[path.stem] = {node.module.split(".")[1] for node in nodes_of(path, ast.ImportFrom)}
            for node in nodes_of(path, ast.ImportFrom):
                there = ast.parse((PACKAGE / (node.module.split(".")[1] + ".py")).read_text()).body
                names = {part.name for part in there if isinstance(part, (ast.FunctionDef, ast.ClassDef))}
                names |= {part.targets[0].id for part in there if isinstance(part, ast.Assign)}
                self.assertLessEqual({alias.name for alias in node.names}, names, path)
        while drawn:
            free = [name for name in drawn if not drawn[name] & set(drawn)]
            self.assertTrue(free, drawn)
            for name in free:
                drawn.pop(name)

    def test_what_is_walked_at_once_is_not_kept(self):
        for path in package_files():
            tree = ast.parse(path.read_text())
            walked = [node.iter for node in ast.walk(tree) if isinstance(node, (ast.For, ast.comprehension))]
            for node in ast.walk(tree):
                if isinstance(node, ast.Call) and node.args and isinstance(node.func, ast.Name):
                    if node.func.id in ("list", "tuple", "dict", "sorted", "sum", "any", "all", "enumerate", "zip"):
                        walked.append(node.args[0])
            for node in ast.walk(tree):
                if isinstance(node, ast.Call):
                    name = node.func.id if isinstance(node.func, ast.Name) else node.func.attr
                    if name in ("zip", "enumerate", "reversed", "range", "items", "keys", "values"):
                        self.assertIn(node, walked, f"{path}:{node.lineno}")
