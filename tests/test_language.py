"""The package keeps to the small part of Python it is written in, as far as a look at its files can tell."""

import ast
import builtins
import pathlib
import re
import unittest

PACKAGE = pathlib.Path(__file__).resolve().parent.parent / "planebook"
FILES = sorted(path for path in PACKAGE.rglob("*") if "__pycache__" not in path.parts)

NODES = set("""
    Module FunctionDef arguments arg Lambda ClassDef Assign AugAssign If While For Return Break Continue Pass Raise Try
    ExceptHandler Expr ImportFrom alias Constant Name Load Store List Tuple Dict Set BinOp UnaryOp BoolOp Compare IfExp
    Call keyword Attribute Subscript Slice ListComp comprehension JoinedStr FormattedValue
    Add Sub Mult FloorDiv Mod Pow BitAnd BitOr BitXor LShift RShift Invert UAdd USub Not And Or
    Eq NotEq Lt LtE Gt GtE In NotIn Is IsNot
    """.split())
BUILTINS = set("""
    len range enumerate zip min max sum abs sorted reversed int str bool list tuple dict set isinstance ord repr any all
    divmod Exception ValueError TypeError KeyError IndexError LookupError ZeroDivisionError ArithmeticError
    OverflowError RuntimeError NotImplementedError AttributeError StopIteration
    """.split())
METHODS = set("""
    append clear copy count endswith extend find get index insert isalnum isalpha isdigit islower isspace isupper items
    join keys ljust lower lstrip partition pop remove replace reverse rfind rjust rpartition rsplit rstrip setdefault
    split splitlines startswith strip update upper values zfill bit_length
    """.split())
WALKED = ("range", "zip", "enumerate", "reversed")
WALKERS = ("list", "tuple", "dict", "sorted", "sum", "any", "all", "enumerate", "zip", "min", "max")
WORDS = re.compile(r"\b(type|typing|typing_extensions|enum|Enum|IntEnum|StrEnum|Flag|IntFlag|Generic|Protocol|ABC"
                   r"|ABCMeta|namedtuple|NamedTuple|TypedDict|TYPE_CHECKING|abstractmethod)\b"
                   r"|dataclass|overload|contextmanager")


def trees():
    return [(path.name, ast.parse(path.read_text())) for path in FILES if path.suffix == ".py"]


def nodes(kind):
    return [(name, node) for name, tree in trees() for node in ast.walk(tree) if isinstance(node, kind)]


class Language(unittest.TestCase):
    def test_files(self):
        self.assertIn("desk.py", [path.name for path in FILES])
        for path in FILES:
            self.assertTrue(path.is_dir() or re.fullmatch(r"(__init__|[a-z][a-z0-9_]*)\.py", path.name), path)

    def test_signs_and_sizes(self):
        for path in FILES:
            text = path.read_text()
            self.assertTrue(all(" " <= sign <= "~" or sign == "\n" for sign in text), path)
            self.assertLessEqual(len(text.splitlines()), 400, path)
            self.assertTrue(all(len(line) <= 120 for line in text.splitlines()), path)
            self.assertIsNone(WORDS.search(text), path)
        for name, node in nodes(ast.FunctionDef):
            self.assertLessEqual(node.end_lineno - node.lineno + 1, 40, (name, node.name))

    def test_statements_and_expressions(self):
        for name, node in nodes(ast.AST):
            self.assertIn(node.__class__.__name__, NODES, (name, getattr(node, "lineno", 0)))
        for name, node in nodes(ast.Constant):
            self.assertIsInstance(node.value, (int, str, bool, None.__class__), (name, node.lineno))
        for name, node in nodes((ast.For, ast.While)):
            self.assertEqual(node.orelse, [], (name, node.lineno))

    def test_functions_are_plain(self):
        for name, node in nodes((ast.FunctionDef, ast.ClassDef)):
            self.assertEqual(node.decorator_list, [], (name, node.name))
        for name, node in nodes(ast.arguments):
            self.assertEqual([node.vararg, node.kwarg, node.kwonlyargs, node.posonlyargs], [None, None, [], []], name)

    def test_imports_are_the_packages_own(self):
        for name, node in nodes(ast.ImportFrom):
            self.assertEqual(node.level, 0, (name, node.lineno))
            self.assertTrue(node.module.startswith("planebook."), (name, node.lineno))

    def test_names(self):
        used = [(name, node.id, isinstance(node.ctx, ast.Store)) for name, node in nodes(ast.Name)]
        bound = [(name, node.arg, True) for name, node in nodes(ast.arg)]
        bound += [(name, node.name, True) for name, node in nodes(ast.FunctionDef)]
        for name, word, given in used + bound:
            self.assertFalse(word.startswith("_"), (name, word))
            if hasattr(builtins, word):
                self.assertTrue(word in BUILTINS and not given, (name, word))

    def test_top_of_a_file(self):
        for name, tree in trees():
            bound = []
            for place, node in enumerate(tree.body):
                if isinstance(node, ast.Assign):
                    self.assertIsInstance(ast.literal_eval(node.value), (int, str, tuple), (name, node.lineno))
                    bound.append(node.targets[0].id)
                elif isinstance(node, ast.Expr):
                    self.assertEqual((place, type(node.value)), (0, ast.Constant), name)
                else:
                    self.assertIsInstance(node, (ast.FunctionDef, ast.ClassDef, ast.ImportFrom), (name, node.lineno))
                    bound += [node.name] if hasattr(node, "name") else [alias.name for alias in node.names]
            self.assertEqual(len(bound), len(set(bound)), name)
            inside = list(ast.walk(tree))
            given = [node.id for node in inside if isinstance(node, ast.Name) and isinstance(node.ctx, ast.Store)]
            given += [node.arg for node in inside if isinstance(node, ast.arg)]
            for word in bound:
                self.assertLessEqual(given.count(word), 1 if word.isupper() else 0, (name, word))

    def test_assignments_have_one_target(self):
        for name, node in nodes(ast.Assign):
            self.assertEqual(len(node.targets), 1, (name, node.lineno))
            self.assertIsInstance(node.targets[0], (ast.Name, ast.Subscript), (name, node.lineno))

    def test_methods_are_plain_and_called(self):
        called = [node.func for name, node in nodes(ast.Call)]
        for name, node in nodes(ast.Attribute):
            self.assertIn(node.attr, METHODS, (name, node.lineno))
            self.assertIn(ast.dump(node), [ast.dump(func) for func in called], (name, node.lineno))

    def test_texts_and_keywords(self):
        for name, node in nodes(ast.Constant):
            self.assertNotIn("%", str(node.value), (name, node.lineno))
        for name, node in nodes(ast.keyword):
            self.assertIn(node.arg, ("key", "reverse", "default", "start", "strict"), name)
        for name, node in nodes(ast.Compare):
            if any(isinstance(sign, (ast.Is, ast.IsNot)) for sign in node.ops):
                self.assertTrue(all(isinstance(one, ast.Constant) for one in node.comparators), (name, node.lineno))

    def test_walked_on_the_spot(self):
        walked = [node.iter for name, node in nodes((ast.For, ast.comprehension))]
        walked += [node.args[0] for name, node in nodes(ast.Call)
                   if isinstance(node.func, ast.Name) and node.func.id in WALKERS and node.args]
        places = {(node.lineno, node.col_offset) for node in walked}
        for name, node in nodes(ast.Call):
            if isinstance(node.func, ast.Name) and node.func.id in WALKED:
                self.assertIn((node.lineno, node.col_offset), places, (name, node.lineno))


if __name__ == "__main__":
    unittest.main()
