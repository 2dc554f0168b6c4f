"""The rules of LANGUAGE.md that can be seen in a file without running it."""

import ast
import builtins
import pathlib
import re
import unittest

PACKAGE = pathlib.Path(__file__).resolve().parent.parent / "treethinning"

STATEMENTS = """Assign AugAssign AnnAssign If While For Return Break Continue Pass Raise Try ExceptHandler Expr
    FunctionDef ClassDef ImportFrom""".split()
EXPRESSIONS = """Constant Name List Tuple Dict Set BinOp UnaryOp BoolOp Compare IfExp Call Attribute Subscript Slice
    ListComp comprehension JoinedStr FormattedValue Lambda keyword arguments arg alias Module Load Store""".split()
SIGNS = """Add Sub Mult FloorDiv Mod Pow LShift RShift BitOr BitXor BitAnd Invert UAdd USub Not And Or
    Eq NotEq Lt LtE Gt GtE In NotIn Is IsNot""".split()
OWN_NAMES = """len range enumerate zip min max sum abs sorted reversed int str bool list tuple dict set frozenset
    isinstance ord repr any all divmod Exception ValueError TypeError KeyError IndexError LookupError
    ZeroDivisionError ArithmeticError OverflowError RuntimeError NotImplementedError AttributeError
    StopIteration""".split()
METHODS = """append clear copy count endswith extend find get index insert isalnum isalpha isdigit islower isspace
    isupper items join keys ljust lower lstrip partition pop remove replace reverse rfind rjust rpartition rsplit
    rstrip setdefault split splitlines startswith strip update upper values zfill bit_length""".split()
WORDS_OUT = """type typing typing_extensions enum Enum IntEnum StrEnum Flag IntFlag Generic Protocol ABC ABCMeta
    namedtuple NamedTuple TypedDict TYPE_CHECKING abstractmethod register mro elements open input""".split()


def package_files():
    return sorted(path for path in PACKAGE.rglob("*") if path.is_file() and "__pycache__" not in path.parts)


def nodes(path):
    return list(ast.walk(ast.parse(path.read_text(encoding="utf-8"))))


class Language(unittest.TestCase):
    def each_node(self):
        for path in package_files():
            for node in nodes(path):
                yield f"{path.name}:{getattr(node, 'lineno', 0)}", node

    def test_files_and_signs(self):
        self.assertIn(PACKAGE / "__init__.py", package_files())
        for path in package_files():
            with self.subTest(file=path.name):
                self.assertRegex(path.name, r"\A([a-z][a-z0-9_]*|__init__|__main__)\.py\Z")
                self.assertFalse(path.name.startswith("test"))
                text = path.read_bytes().decode("ascii")
                self.assertRegex(text, r"\A[ -~\n]*\Z")
                rows = text.split("\n")
                self.assertLessEqual(len(rows), 400)
                self.assertLessEqual(max(map(len, rows)), 120)
                for word in WORDS_OUT:
                    self.assertIsNone(re.search(rf"\b{word}\b", text), word)

    def test_only_the_forms_that_are_told(self):
        allowed = STATEMENTS + EXPRESSIONS + SIGNS
        for where, node in self.each_node():
            self.assertIn(type(node).__name__, allowed, where)
            if isinstance(node, ast.Constant):
                self.assertIn(type(node.value), (int, str, bool, type(None)), where)
            if isinstance(node, (ast.For, ast.While, ast.Try)):
                self.assertFalse(not isinstance(node, ast.Try) and node.orelse, where)
                self.assertFalse(isinstance(node, ast.Try) and node.finalbody, where)
            if isinstance(node, ast.Assign):
                self.assertEqual(len(node.targets), 1, where)

    def test_functions_and_classes(self):
        for where, node in self.each_node():
            if isinstance(node, (ast.FunctionDef, ast.ClassDef)):
                self.assertEqual(node.decorator_list, [], where)
            if isinstance(node, ast.FunctionDef):
                self.assertLessEqual(node.end_lineno - node.lineno + 1, 40, where)
                rest = (node.args.vararg, node.args.kwarg, node.args.kwonlyargs, node.args.posonlyargs)
                self.assertEqual(rest, (None, None, [], []), where)

    def test_imports(self):
        for where, node in self.each_node():
            if isinstance(node, ast.ImportFrom):
                self.assertEqual(node.level, 0, where)
                self.assertRegex(node.module, r"\Atreethinning\.[a-z_]+\Z", where)
                self.assertNotIn("*", [name.name for name in node.names], where)

    def test_names(self):
        defined = {node.name for _, node in self.each_node() if isinstance(node, (ast.FunctionDef, ast.ClassDef))}
        for where, node in self.each_node():
            if isinstance(node, ast.Name):
                if isinstance(node.ctx, ast.Store):
                    self.assertFalse(hasattr(builtins, node.id), where)
                elif hasattr(builtins, node.id):
                    self.assertIn(node.id, OWN_NAMES, where)
                self.assertFalse(node.id.startswith("_"), where)
            if isinstance(node, ast.arg):
                self.assertFalse(hasattr(builtins, node.arg) or node.arg.startswith("_"), where)
            if isinstance(node, ast.Call) and isinstance(node.func, ast.Attribute):
                self.assertIn(node.func.attr, METHODS + sorted(defined), where)


if __name__ == "__main__":
    unittest.main()
