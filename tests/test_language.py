"""The package keeps to the plain part of Python that it is written in."""

import ast
import builtins
import pathlib
import re
import unittest

PACKAGE = pathlib.Path(__file__).resolve().parent.parent / "ropetree"

STATEMENTS = "Assign AugAssign If While For Return Break Continue Pass Raise Try ExceptHandler Expr".split()
DEFS = "Module FunctionDef ClassDef ImportFrom alias arguments arg Lambda keyword".split()
VALUES = ("Constant Name Attribute Subscript Slice Call List Tuple Dict ListComp comprehension IfExp JoinedStr "
          "FormattedValue Load Store BinOp UnaryOp BoolOp Compare").split()
SIGNS = ("Add Sub Mult FloorDiv Mod Pow BitAnd BitOr BitXor LShift RShift Invert USub UAdd Not And Or "
         "Eq NotEq Lt LtE Gt GtE Is IsNot In NotIn").split()
NODES = set(STATEMENTS + DEFS + VALUES + SIGNS)

# Narrower than it might be: of sets, and of Python's own errors but the base, the package needs none.
OWN_NAMES = set("len range enumerate zip min max sum abs sorted reversed int str bool list tuple dict isinstance ord "
                "repr any all divmod ValueError".split())
OWN_METHODS = set("append clear copy count endswith extend find get index insert isalnum isalpha isdigit islower isspace "
                  "isupper items join keys ljust lower lstrip partition pop remove replace reverse rfind rjust rpartition "
                  "rsplit rstrip setdefault split splitlines startswith strip update upper values zfill bit_length".split())
PYTHONS_METHODS = {name for kind in (str, int, list, tuple, dict, set, frozenset, bytes) for name in dir(kind)}
TWO_UNDERSCORES = ("__init__", "__eq__", "__repr__", "__str__", "__len__")
KEYWORDS = {"sorted": ("key", "reverse"), "min": ("key", "default"), "max": ("key", "default"), "sum": ("start",),
            "enumerate": ("start",), "zip": ("strict",)}
WALKED = ("zip", "enumerate", "reversed", "range", "items", "keys", "values")
WALKERS = ("list", "tuple", "dict", "sorted", "sum", "any", "all", "enumerate", "zip", "min", "max")
NOT_USED = set("register mro elements open input version_info with_traceback add_note format format_map attrgetter "
               "methodcaller importlib builtins gc os sys".split())
WORDS = re.compile(r"\b(type|typing|typing_extensions|enum|Enum|IntEnum|StrEnum|Flag|IntFlag|Generic|Protocol|ABC|ABCMeta"
                   r"|namedtuple|NamedTuple|TypedDict|TYPE_CHECKING|abstractmethod)\b|dataclass|overload|contextmanager")


def files():
    return sorted(path for path in PACKAGE.iterdir() if path.name != "__pycache__")


def nodes(kind):
    for path in files():
        for node in ast.walk(ast.parse(path.read_text())):
            if isinstance(node, kind):
                yield path.name, node


def module_path(module):
    return PACKAGE / (module.split(".")[1] + ".py")


class TestLanguage(unittest.TestCase):
    def test_files(self):
        for path in files():
            self.assertRegex(path.name, r"^([a-z][a-z0-9_]*|__init__)\.py$")

    def test_signs_and_sizes(self):
        for path in files():
            text = path.read_bytes().decode("utf-8")
            self.assertRegex(text, r"\A[ -~\n]*\Z", path.name)
            self.assertIsNone(WORDS.search(text), path.name)
            self.assertLessEqual(len(text.splitlines()), 400, path.name)
            self.assertLessEqual(max(len(line) for line in text.splitlines()), 120, path.name)

    def test_only_plain_forms(self):
        for name, node in nodes(ast.AST):
            self.assertIn(node.__class__.__name__, NODES, (name, getattr(node, "lineno", None)))

    def test_functions(self):
        for name, node in nodes(ast.FunctionDef):
            self.assertLessEqual(node.end_lineno - node.lineno + 1, 40, (name, node.name))
            self.assertEqual(node.decorator_list, [], (name, node.name))
            given = node.args
            self.assertFalse(given.vararg or given.kwarg or given.kwonlyargs or given.posonlyargs, (name, node.name))

    def test_bound_names(self):
        for name, node in nodes((ast.Name, ast.arg, ast.FunctionDef, ast.ClassDef)):
            bound = getattr(node, "id", None) or getattr(node, "arg", None) or getattr(node, "name", None)
            if isinstance(node, ast.Name) and isinstance(node.ctx, ast.Load):
                self.assertTrue(bound in OWN_NAMES or not hasattr(builtins, bound), (name, node.lineno, bound))
            elif not (isinstance(node, ast.FunctionDef) and bound in TWO_UNDERSCORES):
                self.assertFalse(hasattr(builtins, bound), (name, node.lineno, bound))
                self.assertRegex(bound, r"^[A-Za-z][A-Za-z0-9_]*$", (name, node.lineno))
            self.assertNotIn(bound, NOT_USED, (name, node.lineno))

    def test_locals_are_not_called_like_classes_and_imports(self):
        for path in files():
            tree = ast.parse(path.read_text())
            taken = {alias.name for node in ast.walk(tree) if isinstance(node, ast.ImportFrom) for alias in node.names}
            taken |= {node.name for node in ast.walk(tree) if isinstance(node, ast.ClassDef)}
            for node in ast.walk(tree):
                if isinstance(node, ast.arg):
                    self.assertNotIn(node.arg, taken, (path.name, node.lineno))
                if isinstance(node, ast.Name) and isinstance(node.ctx, ast.Store):
                    self.assertNotIn(node.id, taken, (path.name, node.lineno))

    def test_methods_of_pythons_own(self):
        for name, node in nodes(ast.Attribute):
            self.assertTrue(node.attr in OWN_METHODS or node.attr not in PYTHONS_METHODS, (name, node.lineno))

    def test_the_top_of_a_file(self):
        for path in files():
            body = ast.parse(path.read_text()).body
            self.assertIsInstance(body[0].value, ast.Constant, path.name)
            for node in body[1:]:
                self.assertIsInstance(node, (ast.ImportFrom, ast.FunctionDef, ast.ClassDef), (path.name, node.lineno))
            bound = [node.name for node in body[1:] if not isinstance(node, ast.ImportFrom)]
            self.assertEqual(len(set(bound)), len(bound), path.name)

    def test_classes(self):
        methods = set()
        for name, node in nodes(ast.ClassDef):
            self.assertLessEqual(len(node.bases), 1, (name, node.name))
            self.assertFalse(node.keywords or node.decorator_list, (name, node.name))
            own = [part.name for part in node.body if isinstance(part, ast.FunctionDef)]
            self.assertEqual(len(set(own)), len(own), (name, node.name))
            self.assertTrue(own and len(own) == len(node.body) or isinstance(node.body[0], ast.Pass), (name, node.name))
            methods.update(own)
        values = {node.attr for name, node in nodes(ast.Attribute) if isinstance(node.ctx, ast.Store)}
        self.assertFalse(methods & values)

    def test_no_annotations(self):
        for name, node in nodes((ast.FunctionDef, ast.arg)):
            self.assertIsNone(getattr(node, "returns", None) or getattr(node, "annotation", None), (name, node.lineno))

    def test_own_errors_alone_are_raised_and_taken(self):
        errors = [node.name for name, node in nodes(ast.ClassDef) if name == "errors.py"]
        for name, node in nodes(ast.ExceptHandler):
            self.assertIn(getattr(node.type, "id", None), errors, (name, node.lineno))
        for name, node in nodes(ast.Raise):
            self.assertIsInstance(node.exc, ast.Call, (name, node.lineno))
            self.assertIn(node.exc.func.id, errors, (name, node.lineno))

    def test_keywords_of_pythons_own(self):
        for name, node in nodes(ast.Call):
            given = [keyword.arg for keyword in node.keywords]
            allowed = KEYWORDS.get(getattr(node.func, "id", None), ())
            self.assertTrue(set(given) <= set(allowed), (name, node.lineno))

    def test_walked_on_the_spot(self):
        walked = {}
        good = set()
        for path in files():
            for node in ast.walk(ast.parse(path.read_text())):
                if isinstance(node, ast.Call):
                    called = getattr(node.func, "id", None) or getattr(node.func, "attr", None)
                    if called in WALKED:
                        walked[path.name, node.lineno, node.col_offset] = called
                    if called in WALKERS and node.args:
                        good.add((path.name, node.args[0].lineno, node.args[0].col_offset))
                if isinstance(node, (ast.For, ast.comprehension)):
                    good.add((path.name, node.iter.lineno, node.iter.col_offset))
        self.assertEqual(set(walked) - good, set())

    def test_numbers_and_texts(self):
        for name, node in nodes(ast.Constant):
            self.assertIsInstance(node.value, (int, str, None.__class__), (name, node.lineno))
            self.assertNotIn("%", str(node.value), (name, node.lineno))

    def test_nothing_is_given_back_at_the_making(self):
        for name, node in nodes(ast.FunctionDef):
            if node.name == "__init__":
                self.assertFalse([part for part in ast.walk(node) if isinstance(part, ast.Return)], (name, node.lineno))

    def test_plain_statements(self):
        for name, node in nodes(ast.Assign):
            self.assertEqual(len(node.targets), 1, (name, node.lineno))
            self.assertIsInstance(node.targets[0], (ast.Name, ast.Attribute, ast.Subscript), (name, node.lineno))
        for name, node in nodes((ast.For, ast.While)):
            self.assertEqual(node.orelse, [], (name, node.lineno))
        for name, node in nodes(ast.ListComp):
            self.assertEqual(len(node.generators), 1, (name, node.lineno))
            self.assertLessEqual(len(node.generators[0].ifs), 1, (name, node.lineno))

    def test_is_stands_beside_none_true_and_false(self):
        for name, node in nodes(ast.Compare):
            for sign, value in zip(node.ops, node.comparators):
                if isinstance(sign, (ast.Is, ast.IsNot)):
                    self.assertIsInstance(value, ast.Constant, (name, node.lineno))
                    self.assertIn(repr(value.value), ("None", "True", "False"), (name, node.lineno))

    def test_imports_come_from_the_defining_file(self):
        for name, node in nodes(ast.ImportFrom):
            self.assertEqual(node.level, 0, (name, node.lineno))
            self.assertRegex(node.module, r"^ropetree\.[a-z_]+$", (name, node.lineno))
            body = ast.parse(module_path(node.module).read_text()).body
            defined = [part.name for part in body if isinstance(part, (ast.FunctionDef, ast.ClassDef))]
            for drawn in node.names:
                self.assertIn(drawn.name, defined, (name, node.lineno))

    def test_no_two_files_draw_from_one_another(self):
        drawn = {path.name: set() for path in files()}
        for name, node in nodes(ast.ImportFrom):
            drawn[name].update({module_path(node.module).name, "__init__.py"})
        while drawn:
            free = [name for name in drawn if not drawn[name] & set(drawn)]
            self.assertTrue(free, drawn)
            drawn = {name: drawn[name] for name in drawn if name not in free}


if __name__ == "__main__":
    unittest.main()
