"""The package keeps to the small part of Python that is asked for: the rules that can be seen from a file's tree."""

import ast
import builtins
import re
import unittest
from pathlib import Path

PACKAGE = Path(__file__).resolve().parent.parent / "pocketmill"
FILES = sorted(path for path in PACKAGE.iterdir() if path.name != "__pycache__")
ORDER = ["errors", "mills", "trays", "wishes", "least", "chains", "fewest", "counting", "joins", "prices", "pages",
         "answers", "desk"]
OWN_NAMES = set(
    "len range enumerate zip min max sum abs sorted reversed int str bool list tuple dict set frozenset isinstance ord "
    "repr any all divmod Exception ValueError KeyError IndexError LookupError ZeroDivisionError StopIteration "
    "ArithmeticError OverflowError RuntimeError NotImplementedError".split())
OWN_METHODS = set(
    "append clear copy count endswith extend find get index insert isalnum isalpha isdigit islower isspace isupper "
    "items join keys ljust lower lstrip partition pop remove replace reverse rfind rjust rpartition rsplit rstrip "
    "setdefault split splitlines startswith strip update upper values zfill bit_length __init__".split())
TREE_PARTS = (
    ast.Module, ast.ImportFrom, ast.alias, ast.FunctionDef, ast.arguments, ast.arg, ast.ClassDef, ast.Lambda,
    ast.Assign, ast.AugAssign, ast.If, ast.While, ast.For, ast.Return, ast.Break, ast.Continue, ast.Pass, ast.Raise,
    ast.Try, ast.ExceptHandler, ast.Expr, ast.Constant, ast.List, ast.Tuple, ast.Dict, ast.BinOp, ast.UnaryOp,
    ast.BoolOp, ast.Compare, ast.IfExp, ast.Call, ast.keyword, ast.Attribute, ast.Subscript, ast.Slice, ast.ListComp,
    ast.comprehension, ast.JoinedStr, ast.FormattedValue, ast.Name, ast.expr_context, ast.operator, ast.unaryop,
    ast.boolop, ast.cmpop,
)
WORDS_OUT = re.compile(
    r"\b(type|typing|typing_extensions|enum|Enum|IntEnum|StrEnum|Flag|IntFlag|Generic|Protocol|ABC|ABCMeta|namedtuple"
    r"|NamedTuple|TypedDict|TYPE_CHECKING|abstractmethod)\b|dataclass|overload|contextmanager")


def parts_of(path, kind):
    return [part for part in ast.walk(ast.parse(path.read_text())) if isinstance(part, kind)]


def defined():
    return {part.name for path in FILES for part in parts_of(path, (ast.FunctionDef, ast.ClassDef))}


class Form(unittest.TestCase):
    def test_l1_files(self):
        for path in FILES:
            self.assertIn(path.name, ["__init__.py"] + [name + ".py" for name in ORDER])

    def test_l10_l14_sizes_and_signs(self):
        for path in FILES:
            text = path.read_text()
            self.assertRegex(text, r"\A[ -~\n]*\Z", path.name)
            self.assertLessEqual(len(text.splitlines()), 400, path.name)
            self.assertLessEqual(max(len(row) for row in text.splitlines()), 120, path.name)
            for part in parts_of(path, ast.FunctionDef):
                self.assertLessEqual(part.end_lineno - part.lineno + 1, 40, part.name)

    def test_l2_l16_imports_are_from_modules_above(self):
        for path in FILES:
            for part in parts_of(path, ast.ImportFrom):
                self.assertEqual(part.level, 0)
                self.assertIn(part.module, ["pocketmill." + name for name in ORDER[:ORDER.index(path.stem)]])
                self.assertTrue(all(name.asname is None and name.name != "*" for name in part.names))

    def test_l6_l7_statements_and_expressions(self):
        for path in FILES:
            for part in parts_of(path, ast.AST):
                self.assertIsInstance(part, TREE_PARTS, f"{path.name}: {ast.dump(part)}")
                self.assertNotIsInstance(part, (ast.Div, ast.MatMult))
                self.assertFalse(getattr(part, "decorator_list", []))
                self.assertFalse(isinstance(part, (ast.For, ast.While)) and part.orelse)
                self.assertFalse(isinstance(part, ast.Assign) and len(part.targets) != 1)
                self.assertFalse(isinstance(part, ast.ListComp) and len(part.generators) != 1)
                self.assertFalse(isinstance(part, ast.arguments) and (part.vararg or part.kwarg or part.kwonlyargs))
                self.assertFalse(isinstance(part, ast.Constant) and isinstance(part.value, (float, bytes)))
                self.assertFalse(isinstance(part, ast.Constant) and isinstance(part.value, str) and "%" in part.value)

    def test_l7_l23_texts_with_plain_names_and_walks_on_the_spot(self):
        for path in FILES:
            for part in parts_of(path, ast.FormattedValue):
                self.assertIsInstance(part.value, ast.Name, path.name)
            for part in parts_of(path, (ast.Assign, ast.Return)):
                called = getattr(getattr(part.value, "func", None), "id", "")
                self.assertNotIn(called, ("zip", "enumerate", "reversed", "range"), path.name)
            for part in parts_of(path, ast.ListComp):
                self.assertEqual(len([inner for inner in ast.walk(part) if isinstance(inner, ast.ListComp)]), 1)

    def test_l15_names_that_stand_for_one_thing(self):
        for path in FILES:
            taken = {name.name for part in parts_of(path, ast.ImportFrom) for name in part.names}
            taken |= {part.name for part in parts_of(path, ast.ClassDef)}
            bound = {part.arg for part in parts_of(path, ast.arg)}
            bound |= {part.id for part in parts_of(path, ast.Name) if isinstance(part.ctx, ast.Store)}
            self.assertEqual(taken & bound, set(), path.name)

    def test_l18_no_name_is_a_method_and_a_value(self):
        methods, values = set(), set()
        for path in FILES:
            for part in parts_of(path, ast.ClassDef):
                methods |= {inner.name for inner in part.body if isinstance(inner, ast.FunctionDef)}
            values |= {part.attr for part in parts_of(path, ast.Attribute) if isinstance(part.ctx, ast.Store)}
        self.assertIn("one_order", methods)
        self.assertIn("passes", values)
        self.assertEqual(methods & values, set())

    def test_l8_l12_names(self):
        for path in FILES:
            for part in parts_of(path, (ast.Name, ast.arg)):
                name = part.id if isinstance(part, ast.Name) else part.arg
                self.assertRegex(name, r"\A[A-Za-z]\w*\Z")
                if hasattr(builtins, name):
                    self.assertIn(name, OWN_NAMES)
                    self.assertIsInstance(getattr(part, "ctx", None), ast.Load, f"{path.name}: {name} is bound anew")

    def test_l25_methods(self):
        for path in FILES:
            for part in parts_of(path, ast.Call):
                if isinstance(part.func, ast.Attribute):
                    self.assertIn(part.func.attr, OWN_METHODS | defined())

    def test_l17_words(self):
        for path in FILES:
            self.assertIsNone(WORDS_OUT.search(path.read_text()), path.name)


if __name__ == "__main__":
    unittest.main()
