"""The package's files keep to the part of Python that they may use, as far as a walk through them can tell."""

import ast
import builtins
import pathlib
import re
import unittest

PACKAGE = pathlib.Path(__file__).resolve().parent.parent / "gluetilesdesk"
FILES = sorted(path for path in PACKAGE.rglob("*") if path.is_file() and "__pycache__" not in path.parts)

NODES = set("""Module Expr Constant ImportFrom alias FunctionDef arguments arg ClassDef Assign AugAssign If While For
    Return Break Continue Pass Raise Try ExceptHandler Call Name Attribute Subscript Slice List Tuple Dict ListComp
    comprehension BinOp UnaryOp BoolOp Compare IfExp JoinedStr FormattedValue Lambda Load Store
    Add Sub Mult FloorDiv Mod Pow BitAnd BitOr BitXor Invert LShift RShift USub Not And Or
    Eq NotEq Lt LtE Gt GtE In NotIn Is IsNot""".split())
BUILT_IN = set("""len range enumerate zip min max sum abs sorted reversed int str bool list tuple dict set frozenset
    isinstance ord repr any all divmod Exception ValueError TypeError KeyError IndexError LookupError
    ZeroDivisionError ArithmeticError OverflowError RuntimeError NotImplementedError AttributeError
    StopIteration""".split())
METHODS = set("""append clear copy count endswith extend find get index insert items join keys pop remove replace
    reverse setdefault split startswith strip update values bit_length""".split())
NO_WORDS = """type typing typing_extensions enum Enum IntEnum StrEnum Flag IntFlag Generic Protocol ABC ABCMeta
    namedtuple NamedTuple TypedDict TYPE_CHECKING abstractmethod""".split()
NO_PARTS = ("dataclass", "overload", "contextmanager")
NO_NAMES = set("""register mro elements open input version_info with_traceback add_note attrgetter breakpoint builtins
    compile copyright credits delattr dir eval exec exit gc getattr globals hasattr help id importlib license locals
    methodcaller os quit setattr super vars sys format format_map""".split())


def parsed(path):
    return ast.parse(path.read_text(encoding="utf-8"))


def bound_names(tree):
    for node in ast.walk(tree):
        if isinstance(node, ast.Name) and isinstance(node.ctx, ast.Store):
            yield node.id
        elif isinstance(node, ast.arg):
            yield node.arg
        elif isinstance(node, (ast.FunctionDef, ast.ClassDef)):
            yield node.name


def plain(node):
    if isinstance(node, (ast.List, ast.Tuple)):
        return all(plain(part) for part in node.elts)
    if isinstance(node, ast.UnaryOp):
        return isinstance(node.op, ast.USub) and plain(node.operand)
    return isinstance(node, ast.Constant) and isinstance(node.value, (int, str, bool, type(None)))


class Language(unittest.TestCase):

    def test_there_are_files(self):
        self.assertIn(PACKAGE / "__init__.py", FILES)
        self.assertIn(PACKAGE / "board.py", FILES)

    def test_file_names(self):
        for path in FILES:
            self.assertEqual(path.parent, PACKAGE)
            self.assertRegex(path.name, r"^([a-z][a-z0-9_]*|__init__|__main__)\.py$")
            self.assertNotIn(path.stem, NO_WORDS)
            self.assertFalse(path.stem in vars(builtins), path)
            self.assertIsNone(re.match("test|site|conftest|usercustomize", path.stem), path)

    def test_signs_and_sizes(self):
        for path in FILES:
            data = path.read_bytes()
            self.assertTrue(all(byte == 10 or 32 <= byte <= 126 for byte in data), path)
            rows = data.decode("ascii").splitlines()
            self.assertLessEqual(len(rows), 400, path)
            for row in rows:
                self.assertLessEqual(len(row), 120, (path, row))
            for node in ast.walk(parsed(path)):
                if isinstance(node, ast.FunctionDef):
                    self.assertLessEqual(node.end_lineno - node.lineno + 1, 40, (path, node.name))

    def test_words(self):
        for path in FILES:
            text = path.read_text()
            for word in NO_WORDS:
                self.assertIsNone(re.search(rf"\b{word}\b", text), (path, word))
            for part in NO_PARTS:
                self.assertNotIn(part, text)

    def test_nodes(self):
        for path in FILES:
            for node in ast.walk(parsed(path)):
                where = (path.name, getattr(node, "lineno", 0))
                self.assertIn(node.__class__.__name__, NODES, where)
                if isinstance(node, ast.Constant):
                    self.assertIsInstance(node.value, (int, str, type(None)), where)
                if isinstance(node, (ast.For, ast.While, ast.Try)):
                    self.assertFalse(node.orelse and not isinstance(node, ast.Try), where)
                    self.assertFalse(isinstance(node, ast.Try) and node.finalbody, where)
                if isinstance(node, ast.Assign):
                    self.assertEqual(len(node.targets), 1, where)
                    self.assertNotIsInstance(node.targets[0], (ast.Tuple, ast.List), where)
                if isinstance(node, ast.Expr) and node.col_offset > 0:
                    self.assertIsInstance(node.value, ast.Call, where)
                if isinstance(node, ast.ListComp):
                    self.assertEqual(len(node.generators), 1, where)
                    self.assertLessEqual(len(node.generators[0].ifs), 1, where)
                if isinstance(node, (ast.FunctionDef, ast.ClassDef)):
                    self.assertEqual(node.decorator_list, [], where)
                if isinstance(node, ast.arguments):
                    self.assertFalse(node.vararg or node.kwarg or node.kwonlyargs or node.posonlyargs, where)
                if isinstance(node, ast.Compare) and isinstance(node.ops[0], (ast.Is, ast.IsNot)):
                    self.assertIn(repr(node.comparators[0].value), ("None", "True", "False"), where)

    def test_names(self):
        for path in FILES:
            tree = parsed(path)
            for name in bound_names(tree):
                if name != "__init__":
                    self.assertRegex(name, r"^[A-Za-z][A-Za-z0-9_]*$", path)
                    self.assertFalse(name in vars(builtins), (path, name))
            for node in ast.walk(tree):
                if isinstance(node, ast.Name):
                    self.assertNotIn(node.id, NO_NAMES, path)
                    self.assertTrue(node.id in BUILT_IN or node.id not in vars(builtins), (path, node.id))
                if isinstance(node, ast.Attribute):
                    self.assertNotIn(node.attr, NO_NAMES, path)
                    self.assertRegex(node.attr, r"^[A-Za-z][A-Za-z0-9_]*$", path)

    def test_methods(self):
        own = {node.name for path in FILES for node in ast.walk(parsed(path)) if isinstance(node, ast.FunctionDef)}
        for path in FILES:
            for node in ast.walk(parsed(path)):
                if isinstance(node, ast.Call) and isinstance(node.func, ast.Attribute):
                    self.assertIn(node.func.attr, METHODS | own, (path, node.lineno))

    def test_top_of_a_file(self):
        for path in FILES:
            tree = parsed(path)
            found = []
            imported = []
            for number, node in enumerate(tree.body):
                if isinstance(node, ast.Expr):
                    self.assertEqual(number, 0, path)
                    self.assertIsInstance(node.value.value, str, path)
                elif isinstance(node, ast.ImportFrom):
                    self.assertEqual(node.level, 0, path)
                    self.assertTrue((PACKAGE.parent / (node.module.replace(".", "/") + ".py")) in FILES, path)
                    imported += [alias.asname or alias.name for alias in node.names]
                elif isinstance(node, ast.Assign):
                    self.assertTrue(plain(node.value), (path, node.lineno))
                    found.append(node.targets[0].id)
                else:
                    self.assertIsInstance(node, (ast.FunctionDef, ast.ClassDef), path)
                    found.append(node.name)
            self.assertEqual(len(found + imported), len(set(found + imported)), path)
            for node in ast.walk(tree):
                if isinstance(node, ast.arg):
                    self.assertNotIn(node.arg, imported, path)
                if isinstance(node, ast.Name) and isinstance(node.ctx, ast.Store):
                    self.assertNotIn(node.id, imported, path)

    def test_imports_from_the_file_that_defines_and_in_no_circle(self):
        draws = {}
        for path in FILES:
            nodes = [node for node in parsed(path).body if isinstance(node, ast.ImportFrom)]
            draws[path.stem] = {node.module.split(".")[1] for node in nodes}
            for node in nodes:
                there = parsed(PACKAGE / (node.module.split(".")[1] + ".py")).body
                defined = {part.name for part in there if isinstance(part, (ast.FunctionDef, ast.ClassDef))}
                defined |= {part.targets[0].id for part in there if isinstance(part, ast.Assign)}
                self.assertLessEqual({alias.name for alias in node.names}, defined, path)
        while draws:
            ready = [stem for stem in draws if not draws[stem] & set(draws)]
            self.assertTrue(ready, draws)
            for stem in ready:
                draws.pop(stem)


if __name__ == "__main__":
    unittest.main()
