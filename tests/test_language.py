"""The form of the package's files: the rules of the language that can be read off its text and its syntax."""

import ast
import builtins
import pathlib
import re
import unittest

PACKAGE = pathlib.Path(__file__).resolve().parent.parent / "rowguard"
FILES = sorted(path for path in PACKAGE.rglob("*") if "__pycache__" not in path.parts)

SYNTAX = """Module FunctionDef ClassDef arguments arg Import ImportFrom alias Assign AugAssign If While For Return Break
    Continue Pass Raise Try ExceptHandler Expr Constant Name Load Store Attribute Subscript Slice Call keyword List Tuple
    Dict Set BinOp UnaryOp BoolOp Compare IfExp Lambda ListComp comprehension JoinedStr FormattedValue Add Sub Mult
    FloorDiv Mod Pow BitAnd BitOr BitXor LShift RShift Invert Not USub UAdd And Or Eq NotEq Lt LtE Gt GtE Is IsNot In
    NotIn""".split()

OWN_NAMES = """len range enumerate zip min max sum abs sorted reversed int str bool list tuple dict set frozenset isinstance
    ord repr any all divmod Exception ValueError TypeError KeyError IndexError LookupError ZeroDivisionError
    ArithmeticError OverflowError RuntimeError NotImplementedError AttributeError StopIteration""".split()

METHODS = """append clear copy count endswith extend find get index insert isalnum isalpha isdigit islower isspace isupper
    items join keys ljust lower lstrip partition pop remove replace reverse rfind rjust rpartition rsplit rstrip
    setdefault split splitlines startswith strip update upper values zfill bit_length""".split()

WORDS = """type typing typing_extensions enum Enum IntEnum StrEnum Flag IntFlag Generic Protocol ABC ABCMeta namedtuple
    NamedTuple TypedDict TYPE_CHECKING abstractmethod""".split()


def walked(kind):
    for path in FILES:
        for node in ast.walk(ast.parse(path.read_text())):
            if isinstance(node, kind):
                yield path.name, node


class Language(unittest.TestCase):
    def test_files(self):
        self.assertIn(PACKAGE / "__init__.py", FILES)
        for path in FILES:
            self.assertRegex(path.name, r"^([a-z][a-z0-9_]*|__init__)\.py$")

    def test_signs_and_sizes(self):
        for path in FILES:
            self.assertRegex(path.read_bytes().decode("utf-8"), r"\A[ -~\n]*\Z", path.name)
            lines = path.read_text().split("\n")
            self.assertLessEqual(len(lines), 400, path.name)
            self.assertLessEqual(max(len(line) for line in lines), 120, path.name)
        for name, node in walked(ast.FunctionDef):
            self.assertLessEqual(node.end_lineno - node.lineno + 1, 40, (name, node.name))

    def test_words_that_stand_nowhere(self):
        for path in FILES:
            words = re.findall(r"\w+", path.read_text())
            self.assertFalse(set(words) & set(WORDS), path.name)
            self.assertFalse([word for word in words if re.search("dataclass|overload|contextmanager", word)])

    def test_syntax(self):
        for name, node in walked(ast.AST):
            self.assertIn(node.__class__.__name__, SYNTAX, (name, getattr(node, "lineno", None)))

    def test_imports_are_the_package_s_own(self):
        for name, node in walked((ast.Import, ast.ImportFrom)):
            self.assertIsInstance(node, ast.ImportFrom, name)
            self.assertEqual(node.level, 0, name)
            self.assertTrue(node.module.startswith("rowguard."), (name, node.module))

    def test_functions_and_classes(self):
        for name, node in walked(ast.FunctionDef):
            args = node.args
            self.assertFalse(node.decorator_list or args.vararg or args.kwarg or args.kwonlyargs or args.posonlyargs)
        for name, node in walked(ast.ClassDef):
            self.assertFalse(node.decorator_list or node.keywords or len(node.bases) > 1, (name, node.name))

    def test_assignments_have_one_target(self):
        for name, node in walked(ast.Assign):
            self.assertEqual(len(node.targets), 1, (name, node.lineno))
            self.assertNotIsInstance(node.targets[0], (ast.Tuple, ast.List), (name, node.lineno))

    def test_names(self):
        for name, node in walked(ast.Name):
            self.assertFalse(node.id.startswith("_"), (name, node.id))
            if node.id in dir(builtins):
                self.assertIn(node.id, OWN_NAMES, (name, node.lineno))
                self.assertIsInstance(node.ctx, ast.Load, (name, node.lineno))
        for name, node in walked((ast.arg, ast.FunctionDef)):
            word = node.arg if isinstance(node, ast.arg) else node.name
            self.assertFalse(word.startswith("_") or word in dir(builtins), (name, word))

    def test_imports_keep_their_meaning(self):
        for path in FILES:
            nodes = list(ast.walk(ast.parse(path.read_text())))
            drawn = [alias.name for node in nodes if isinstance(node, ast.ImportFrom) for alias in node.names]
            bound = [node.id for node in nodes if isinstance(node, ast.Name) and isinstance(node.ctx, ast.Store)]
            bound += [node.arg for node in nodes if isinstance(node, ast.arg)]
            bound += [node.name for node in nodes if isinstance(node, (ast.FunctionDef, ast.ClassDef))]
            self.assertEqual(len(drawn), len(set(drawn)), path.name)
            self.assertFalse(set(drawn) & set(bound), path.name)

    def test_methods(self):
        for name, node in walked(ast.Attribute):
            self.assertIn(node.attr, METHODS, (name, node.lineno))

    def test_is_stands_beside_none_true_and_false(self):
        for name, node in walked(ast.Compare):
            if isinstance(node.ops[0], (ast.Is, ast.IsNot)):
                self.assertIn(ast.unparse(node.comparators[0]), ("None", "True", "False"), (name, node.lineno))

    def test_values(self):
        for name, node in walked(ast.Constant):
            self.assertIn(node.value.__class__, (int, str, bool, None.__class__), (name, node.lineno))
            self.assertNotIn("%", str(node.value), (name, node.lineno))


if __name__ == "__main__":
    unittest.main()
