"""The package's own files are held to the rules of the part of Python that the program keeps to."""

import ast
import builtins
import pathlib
import re
import unittest

PACKAGE = pathlib.Path(__file__).resolve().parent.parent / "cutnets"

BUILT_IN = set("""len range enumerate zip min max sum abs sorted reversed int str bool list tuple dict set frozenset
    isinstance ord repr any all divmod Exception ValueError TypeError KeyError IndexError LookupError ZeroDivisionError
    ArithmeticError OverflowError RuntimeError NotImplementedError AttributeError StopIteration""".split())
METHODS = set("""append clear copy count endswith extend find get index insert isalnum isalpha isdigit islower isspace
    isupper items join keys ljust lower lstrip partition pop remove replace reverse rfind rjust rpartition rsplit rstrip
    setdefault split splitlines startswith strip update upper values zfill bit_length""".split())
NODES = set("""Module FunctionDef ClassDef arguments arg Expr Assign AugAssign If While For Return Break Continue Pass
    Raise Try ExceptHandler ImportFrom alias Name Load Store Constant List Tuple Dict BinOp UnaryOp BoolOp Compare IfExp
    Call Attribute Subscript Slice ListComp comprehension JoinedStr FormattedValue Lambda keyword Add Sub Mult FloorDiv
    Mod Pow LShift RShift BitOr BitAnd BitXor Invert And Or Not USub UAdd Eq NotEq Lt LtE Gt GtE In NotIn Is
    IsNot""".split())
WALKED = ("zip", "enumerate", "reversed", "range")
WALKERS = ("list", "tuple", "dict", "sorted", "sum", "any", "all", "enumerate", "zip", "min", "max")
WORDS = re.compile(r"\b(type|typing|typing_extensions|enum|Enum|IntEnum|StrEnum|Flag|IntFlag|Generic|Protocol|ABC"
                   r"|ABCMeta|namedtuple|NamedTuple|TypedDict|TYPE_CHECKING|abstractmethod)\b"
                   r"|dataclass|overload|contextmanager")
UNUSED = ("register", "mro", "elements", "open", "input", "version_info", "with_traceback", "add_note", "format",
          "format_map")
PYTHONS_OWN = {name for kind in (str, int, list, dict, set, bytes, tuple) for name in vars(kind)} | set(dir(0))


def sources():
    return {path: path.read_text("ascii") for path in sorted(PACKAGE.glob("*.py"))}


def trees():
    return {path: ast.parse(text) for path, text in sources().items()}


def called(node):
    return node.func.id if isinstance(node, ast.Call) and isinstance(node.func, ast.Name) else None


def bound_names(tree):
    names = [node.id for node in ast.walk(tree) if isinstance(node, ast.Name) and isinstance(node.ctx, ast.Store)]
    names += [node.arg for node in ast.walk(tree) if isinstance(node, ast.arg)]
    return names + [node.name for node in ast.walk(tree) if isinstance(node, ast.ExceptHandler) and node.name]


def defined(tree):
    return [node.name for node in ast.walk(tree) if isinstance(node, (ast.FunctionDef, ast.ClassDef))]


def assigned(tree):
    return [node.targets[0].id for node in tree.body if isinstance(node, ast.Assign)]


def imported(tree):
    return [name.name for node in tree.body if isinstance(node, ast.ImportFrom) for name in node.names]


class Files(unittest.TestCase):
    def test_only_python_files_with_plain_names(self):
        for path in PACKAGE.iterdir():
            if path.name != "__pycache__":
                self.assertRegex(path.name, r"^([a-z][a-z0-9_]*|__init__)\.py$")
                self.assertNotIn(path.stem, dir(builtins))
        self.assertTrue((PACKAGE / "__init__.py").exists())

    def test_signs_and_size(self):
        for path, text in sources().items():
            rows = text.split("\n")
            self.assertLessEqual(len(rows), 400, path)
            self.assertLessEqual(max(map(len, rows)), 120, path)
            self.assertRegex(text, r"^[ -~\n]*$", path)
            self.assertIsNone(WORDS.search(text), path)

    def test_functions_are_small(self):
        for path, tree in trees().items():
            for node in ast.walk(tree):
                if isinstance(node, ast.FunctionDef):
                    self.assertLessEqual(node.end_lineno - node.lineno + 1, 40, (path, node.name))


class Forms(unittest.TestCase):
    def test_statements_and_expressions(self):
        for path, tree in trees().items():
            for node in ast.walk(tree):
                kind = node.__class__.__name__
                self.assertIn(kind, NODES, (path, getattr(node, "lineno", 0)))
                if isinstance(node, (ast.For, ast.While)):
                    self.assertEqual([], node.orelse, path)
                if isinstance(node, ast.Try):
                    self.assertEqual([], node.finalbody, path)
                if isinstance(node, ast.Assign):
                    self.assertEqual(1, len(node.targets), (path, node.lineno))
                if isinstance(node, ast.ListComp):
                    self.assertEqual(1, len(node.generators), (path, node.lineno))
                    self.assertLessEqual(len(node.generators[0].ifs), 1, (path, node.lineno))
                if isinstance(node, ast.Constant):
                    self.assertIn(node.value.__class__, (int, str, bool, type(None)), (path, node.lineno))
                if isinstance(node, ast.Expr) and not isinstance(node.value, ast.Call):
                    self.assertIs(node, tree.body[0], (path, node.lineno))

    def test_functions_and_classes(self):
        for path, tree in trees().items():
            for node in ast.walk(tree):
                if isinstance(node, (ast.FunctionDef, ast.ClassDef)):
                    self.assertEqual([], node.decorator_list, (path, node.name))
                if isinstance(node, ast.FunctionDef):
                    self.assertIsNone(node.returns, (path, node.name))
                if isinstance(node, ast.arguments):
                    self.assertEqual((None, None, []), (node.vararg, node.kwarg, node.kwonlyargs), path)
                if isinstance(node, ast.arg):
                    self.assertIsNone(node.annotation, (path, node.arg))
                if isinstance(node, ast.ClassDef):
                    self.assertLessEqual(len(node.bases), 1, (path, node.name))
                    self.assertTrue(all(isinstance(part, ast.FunctionDef) for part in node.body), (path, node.name))

    def test_the_top_of_a_file(self):
        plain = (ast.Constant, ast.Tuple, ast.List, ast.Dict, ast.Name, ast.UnaryOp, ast.USub, ast.Load)
        for path, tree in trees().items():
            functions = defined(tree)
            self.assertIsNotNone(ast.get_docstring(tree), path)
            for node in tree.body[1:]:
                self.assertIsInstance(node, (ast.ImportFrom, ast.FunctionDef, ast.ClassDef, ast.Assign), path)
                if isinstance(node, ast.Assign):
                    for part in ast.walk(node.value):
                        self.assertIsInstance(part, plain, (path, node.lineno))
                        self.assertTrue(not isinstance(part, ast.Name) or part.id in functions, (path, node.lineno))

    def test_walked_at_once(self):
        for path, tree in trees().items():
            walked = []
            for node in ast.walk(tree):
                if isinstance(node, (ast.For, ast.comprehension)):
                    walked.append(node.iter)
                if called(node) in WALKERS and node.args:
                    walked.append(node.args[0])
            for node in ast.walk(tree):
                if called(node) in WALKED:
                    self.assertTrue(any(node is other for other in walked), (path, node.lineno))
                self.assertNotIn(called(node), ("set", "frozenset"), path)


class Names(unittest.TestCase):
    def test_imports(self):
        files = trees()
        drawn = {}
        for path, tree in files.items():
            drawn[path.stem] = []
            for node in tree.body:
                if isinstance(node, ast.ImportFrom):
                    self.assertEqual(0, node.level)
                    package, name = node.module.split(".")
                    self.assertEqual("cutnets", package)
                    source = files[PACKAGE / f"{name}.py"]
                    tops = defined(source) + assigned(source)
                    for given in node.names:
                        self.assertIsNone(given.asname)
                        self.assertIn(given.name, tops, path)
                    drawn[path.stem].append(name)
        while drawn:
            free = [name for name in drawn if not any(other in drawn for other in drawn[name])]
            self.assertTrue(free, "files draw from one another")
            for name in free:
                drawn.pop(name)

    def test_every_name_is_used(self):
        for path, tree in trees().items():
            used = [node.id for node in ast.walk(tree) if isinstance(node, ast.Name) and isinstance(node.ctx, ast.Load)]
            for name in imported(tree):
                self.assertIn(name, used, path)

    def test_names_have_one_meaning(self):
        for path, tree in trees().items():
            blocks = [node for node in tree.body if isinstance(node, (ast.FunctionDef, ast.ClassDef))]
            tops = assigned(tree) + imported(tree) + [node.name for node in blocks]
            self.assertEqual(len(tops), len(set(tops)), path)
            inner = [name for node in blocks for name in bound_names(node)]
            for name in inner + tops:
                self.assertRegex(name, r"^[A-Za-z][A-Za-z0-9_]*$", path)
                self.assertNotIn(name, dir(builtins), path)
                self.assertNotIn(name, UNUSED, path)
            self.assertEqual([], [name for name in inner if name in tops], path)

    def test_built_in_names(self):
        for path, tree in trees().items():
            known = set(defined(tree) + imported(tree) + bound_names(tree)) | BUILT_IN
            for node in ast.walk(tree):
                if isinstance(node, ast.Name) and isinstance(node.ctx, ast.Load):
                    self.assertIn(node.id, known, (path, node.lineno))

    def test_methods_and_values(self):
        own_methods, own_values = set(), set()
        for tree in trees().values():
            for node in ast.walk(tree):
                if isinstance(node, ast.ClassDef):
                    own_methods |= {part.name for part in node.body}
                if isinstance(node, ast.Attribute) and isinstance(node.ctx, ast.Store):
                    own_values.add(node.attr)
        self.assertEqual(set(), own_methods & own_values)
        self.assertEqual(set(), (own_methods - {"__init__"} | own_values) & PYTHONS_OWN)
        for path, tree in trees().items():
            for node in ast.walk(tree):
                if isinstance(node, ast.Attribute):
                    self.assertIn(node.attr, METHODS | own_methods | own_values, (path, node.lineno))
                    self.assertNotIn(node.attr, UNUSED, (path, node.lineno))


if __name__ == "__main__":
    unittest.main()
