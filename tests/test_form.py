"""The package keeps to its small part of Python, as far as a look at its files can tell."""

import ast
import pathlib
import re
import unittest

PACKAGE = pathlib.Path(__file__).resolve().parent.parent / "branchcaches"
FILES = sorted(path for path in PACKAGE.rglob("*") if "__pycache__" not in path.parts)
SOURCES = {path: path.read_text(encoding="utf-8") for path in FILES if path.suffix == ".py"}

NODES = """
    Module Expr Constant ImportFrom alias FunctionDef ClassDef arguments arg Lambda keyword
    Assign AugAssign If While For Return Break Continue Pass Raise Try ExceptHandler
    Name Attribute Subscript Slice Call List Tuple Dict ListComp comprehension IfExp JoinedStr FormattedValue
    BoolOp And Or UnaryOp Not USub Invert BinOp Add Sub Mult FloorDiv Mod Pow BitAnd BitOr BitXor LShift RShift
    Compare Eq NotEq Lt LtE Gt GtE In NotIn Is IsNot Load Store
""".split()
OWN_NAMES = """
    len range enumerate zip min max sum abs sorted reversed int str bool list tuple dict set frozenset isinstance
    ord repr any all divmod Exception ValueError TypeError KeyError IndexError LookupError ZeroDivisionError
    ArithmeticError OverflowError RuntimeError NotImplementedError AttributeError StopIteration
""".split()
METHODS = """
    append clear copy count endswith extend find get index insert isalnum isalpha isdigit islower isspace isupper
    items join keys ljust lower lstrip partition pop remove replace reverse rfind rjust rpartition rsplit rstrip
    setdefault split splitlines startswith strip update upper values zfill bit_length
""".split()
UNUSED_NAMES = "register mro elements open input version_info with_traceback add_note format format_map".split()
UNUSED_WORDS = """
    type typing typing_extensions enum Enum IntEnum StrEnum Flag IntFlag Generic Protocol ABC ABCMeta namedtuple
    NamedTuple TypedDict TYPE_CHECKING abstractmethod
""".split()
BUILT_IN = dir(__builtins__) if not isinstance(__builtins__, dict) else list(__builtins__)


def nodes_of(*kinds):
    for path, source in SOURCES.items():
        for node in ast.walk(ast.parse(source)):
            if isinstance(node, kinds):
                yield f"{path.name}:{getattr(node, 'lineno', 0)}", node


def bound_names(tree):
    names = [node.id for node in ast.walk(tree) if isinstance(node, ast.Name) and isinstance(node.ctx, ast.Store)]
    names += [node.arg for node in ast.walk(tree) if isinstance(node, ast.arg)]
    names += [node.name for node in ast.walk(tree) if isinstance(node, (ast.FunctionDef, ast.ClassDef))]
    return names + [alias.name for node in ast.walk(tree) if isinstance(node, ast.ImportFrom) for alias in node.names]


class Files(unittest.TestCase):
    def test_only_python_files_with_plain_names(self):
        self.assertIn(PACKAGE / "__init__.py", FILES)
        for path in FILES:
            self.assertRegex(path.name, r"^([a-z][a-z0-9_]*|__init__)\.py$")
            self.assertNotIn(path.stem, BUILT_IN)
            self.assertFalse(path.stem.startswith("test") or path.stem in ("site", "conftest"))

    def test_signs_and_sizes(self):
        for path, source in SOURCES.items():
            self.assertRegex(source, r"\A[ -~\n]*\Z", path.name)
            self.assertLessEqual(len(source.splitlines()), 400, path.name)
            self.assertLessEqual(max(map(len, source.splitlines())), 120, path.name)

    def test_functions_are_short(self):
        for place, node in nodes_of(ast.FunctionDef):
            self.assertLessEqual(node.end_lineno - node.lineno + 1, 40, place)

    def test_words_that_stand_nowhere(self):
        for path, source in SOURCES.items():
            for word in re.findall(r"\w+", source):
                self.assertNotIn(word, UNUSED_WORDS, path.name)
                self.assertNotRegex(word, "dataclass|overload|contextmanager", path.name)


class Code(unittest.TestCase):
    def test_kinds_of_code(self):
        skipped = (ast.Load, ast.Store)
        for place, node in nodes_of(ast.AST):
            if not isinstance(node, skipped):
                self.assertIn(type(node).__name__, NODES, place)

    def test_plain_rows(self):
        for place, node in nodes_of(ast.Assign):
            self.assertEqual(len(node.targets), 1, place)
            self.assertNotIsInstance(node.targets[0], (ast.Tuple, ast.List), place)
        for place, node in nodes_of(ast.For, ast.While):
            self.assertEqual(node.orelse, [], place)
        for place, node in nodes_of(ast.ListComp):
            self.assertEqual(len(node.generators), 1, place)
            self.assertLessEqual(len(node.generators[0].ifs), 1, place)
        for place, node in nodes_of(ast.FunctionDef, ast.ClassDef):
            self.assertEqual(node.decorator_list, [], place)

    def test_is_stands_beside_none_true_false_alone(self):
        for place, node in nodes_of(ast.Compare):
            if any(isinstance(sign, (ast.Is, ast.IsNot)) for sign in node.ops):
                self.assertIsInstance(node.comparators[0], ast.Constant, place)

    def test_values(self):
        for place, node in nodes_of(ast.Constant):
            self.assertIsInstance(node.value, (int, str, type(None)), place)
            self.assertFalse(isinstance(node.value, str) and chr(37) in node.value, place)

    def test_names(self):
        for path, source in SOURCES.items():
            tree = ast.parse(source)
            bound = bound_names(tree)
            for name in bound:
                self.assertRegex(name, r"^([A-Za-z][A-Za-z0-9_]*|__(init|eq|repr|str|len)__)$", path.name)
                self.assertNotIn(name, BUILT_IN + UNUSED_NAMES, path.name)
            for node in ast.walk(tree):
                if isinstance(node, ast.Name):
                    self.assertIn(node.id, bound + OWN_NAMES, path.name)

    def test_methods(self):
        own = [node.name for place, node in nodes_of(ast.FunctionDef)]
        stored = [node.attr for place, node in nodes_of(ast.Attribute) if isinstance(node.ctx, ast.Store)]
        self.assertEqual(set(own) & set(stored), set())
        for place, node in nodes_of(ast.Attribute):
            self.assertIn(node.attr, own + stored + METHODS, place)


class Shape(unittest.TestCase):
    def test_top_of_a_file(self):
        kinds = (ast.ImportFrom, ast.FunctionDef, ast.ClassDef, ast.Assign)
        for path, source in SOURCES.items():
            body = ast.parse(source).body
            self.assertIsInstance(body[0], ast.Expr, path.name)
            bound = [name for node in body[1:] for name in top_names(node)]
            self.assertEqual(len(bound), len(set(bound)), path.name)
            for node in body[1:]:
                self.assertIsInstance(node, kinds, path.name)
                if isinstance(node, ast.Assign):
                    ast.literal_eval(node.value)

    def test_plain_parameters(self):
        for place, node in nodes_of(ast.arguments):
            self.assertEqual((node.vararg, node.kwarg, node.kwonlyargs, node.posonlyargs), (None, None, [], []), place)
        for place, node in nodes_of(ast.arg):
            self.assertIsNone(node.annotation, place)
        for place, node in nodes_of(ast.FunctionDef):
            self.assertIsNone(node.returns, place)

    def test_plain_classes(self):
        for place, node in nodes_of(ast.ClassDef):
            for part in node.body:
                self.assertIsInstance(part, ast.FunctionDef, place)
            self.assertEqual(len(node.body), len({part.name for part in node.body}), place)

    def test_no_local_is_called_like_a_class_or_an_import(self):
        for path, source in SOURCES.items():
            tree = ast.parse(source)
            top = [name for node in tree.body if not isinstance(node, ast.Assign) for name in top_names(node)]
            for node in ast.walk(tree):
                if isinstance(node, ast.arg):
                    self.assertNotIn(node.arg, top, path.name)
                if isinstance(node, ast.Name) and isinstance(node.ctx, ast.Store):
                    self.assertNotIn(node.id, top, path.name)

    def test_keywords(self):
        allowed = {"sorted": ["key", "reverse"], "min": ["key", "default"], "max": ["key", "default"],
                   "sum": ["start"], "enumerate": ["start"], "zip": ["strict"]}
        for place, node in nodes_of(ast.Call):
            for keyword in node.keywords:
                self.assertIn(keyword.arg, allowed.get(getattr(node.func, "id", ""), []), place)

    def test_walked_at_once(self):
        for path, source in SOURCES.items():
            tree = ast.parse(source)
            walked = [id(node.iter) for node in ast.walk(tree) if isinstance(node, (ast.For, ast.comprehension))]
            for node in ast.walk(tree):
                if isinstance(node, ast.Call) and called(node) in WALKED:
                    self.assertIn(id(node), walked, path.name)

    def test_no_sets(self):
        for place, node in nodes_of(ast.Name):
            self.assertNotIn(node.id, ["set", "frozenset"], place)

    def test_values_of_objects_are_not_called_like_pythons_methods(self):
        pythons = {name for kind in (str, int, list, dict, set, bytes, tuple) for name in dir(kind)}
        for place, node in nodes_of(ast.Attribute):
            if isinstance(node.ctx, ast.Store):
                self.assertNotIn(node.attr, pythons, place)


WALKED = "zip enumerate reversed range items keys values".split()


def called(call):
    return call.func.attr if isinstance(call.func, ast.Attribute) else call.func.id


def top_names(node):
    if isinstance(node, ast.ImportFrom):
        return [alias.name for alias in node.names]
    if isinstance(node, ast.Assign):
        return [target.id for target in node.targets]
    return [node.name] if isinstance(node, (ast.FunctionDef, ast.ClassDef)) else []


class Imports(unittest.TestCase):
    def test_only_own_files_by_full_name(self):
        for place, node in nodes_of(ast.ImportFrom):
            self.assertEqual(node.level, 0, place)
            self.assertRegex(node.module, r"^branchcaches\.[a-z0-9_]+$", place)
            source = SOURCES[PACKAGE / f"{node.module.split('.')[1]}.py"]
            defined = re.findall(r"^(?:def |class |(?=[A-Z]))(\w+)", source, re.MULTILINE)
            for alias in node.names:
                self.assertIn(alias.name, defined, place)
                self.assertIsNone(alias.asname, place)

    def test_no_two_files_draw_from_one_another(self):
        draws = {
            path.stem: [
                node.module.split(".")[1] for node in ast.parse(source).body if isinstance(node, ast.ImportFrom)
            ]
            for path, source in SOURCES.items()
        }
        while draws:
            free = [name for name in draws if not set(draws[name]) & set(draws)]
            self.assertNotEqual(free, [], draws)
            draws = {name: draws[name] for name in draws if name not in free}


if __name__ == "__main__":
    unittest.main()
