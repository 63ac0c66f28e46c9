"""The package's files keep to the small part of the language, as far as a walk over their trees can see."""

import ast
import builtins
import pathlib
import re
import unittest

PACKAGE = pathlib.Path(__file__).resolve().parent.parent / "racetally"

NODES = """Module Expr FunctionDef arguments arg ClassDef Return Assign AugAssign For While If Raise Try ExceptHandler
Import ImportFrom alias Pass Break Continue BoolOp BinOp UnaryOp Lambda IfExp Dict Set ListComp comprehension Compare
Call JoinedStr FormattedValue Constant Attribute Subscript Name List Tuple Slice Load Store And Or Add Sub Mult FloorDiv
Mod Pow LShift RShift BitOr BitXor BitAnd Invert Not UAdd USub Eq NotEq Lt LtE Gt GtE Is IsNot In NotIn keyword""".split()

OWN_NAMES = """len range enumerate zip min max sum abs sorted reversed int str bool list tuple dict set frozenset isinstance
ord repr any all divmod Exception ValueError TypeError KeyError IndexError LookupError ZeroDivisionError ArithmeticError
OverflowError RuntimeError NotImplementedError AttributeError StopIteration""".split()

METHODS = """append clear copy count endswith extend find get index insert isalnum isalpha isdigit islower isspace isupper
items join keys ljust lower lstrip partition pop remove replace reverse rfind rjust rpartition rsplit rstrip setdefault
split splitlines startswith strip update upper values zfill bit_length""".split()

WORDS = """type typing typing_extensions enum Enum IntEnum StrEnum Flag IntFlag Generic Protocol ABC ABCMeta namedtuple
NamedTuple TypedDict TYPE_CHECKING abstractmethod""".split()

DUNDERS = ["__init__", "__eq__", "__repr__", "__str__", "__len__"]

PYTHONS_OWN = {name for kind in (str, int, list, tuple, dict, set, frozenset, bytes) for name in dir(kind)}


def files():
    return sorted(path for path in PACKAGE.rglob("*") if "__pycache__" not in path.parts)


def trees():
    return [(path, ast.parse(path.read_text(encoding="utf-8"))) for path in files() if path.suffix == ".py"]


def walked():
    return [(f"{path.name}:{getattr(node, 'lineno', 0)}", node) for path, tree in trees() for node in ast.walk(tree)]


class Language(unittest.TestCase):
    def test_files(self):
        self.assertIn(PACKAGE / "__init__.py", files())
        for path in files():
            self.assertRegex(path.name, r"^[a-z0-9_]+\.py$")
            self.assertNotIn(path.stem, dir(builtins))
            self.assertNotRegex(path.stem, r"^(test.*|site|conftest|.*customize)$")

    def test_sizes_and_signs(self):
        for path in files():
            text = path.read_text(encoding="utf-8")
            self.assertRegex(text, r"\A[ -~\n]*\Z", path)
            lines = text.split("\n")
            self.assertLessEqual(len(lines), 400, path)
            self.assertLessEqual(max(map(len, lines)), 120, path)

    def test_words(self):
        for path in files():
            text = path.read_text(encoding="utf-8")
            self.assertFalse(set(WORDS) & set(re.findall(r"\w+", text)), path)
            self.assertNotRegex(text, "dataclass|overload|contextmanager", path)

    def test_statements_and_expressions(self):
        for where, node in walked():
            self.assertIn(node.__class__.__name__, NODES, where)
            if isinstance(node, (ast.FunctionDef, ast.ClassDef)):
                self.assertEqual(node.decorator_list, [], where)
            if isinstance(node, ast.FunctionDef):
                self.assertLessEqual(node.end_lineno - node.lineno + 1, 40, where)
            if isinstance(node, ast.Assign):
                self.assertEqual(len(node.targets), 1, where)
            if isinstance(node, (ast.For, ast.While)):
                self.assertEqual(node.orelse, [], where)
            if isinstance(node, ast.Constant):
                self.assertIn(type(node.value), (int, str, bool, type(None)), where)
                self.assertNotIn("%", str(node.value), where)
            if isinstance(node, ast.arguments):
                self.assertFalse(node.vararg or node.kwarg or node.kwonlyargs or node.posonlyargs, where)

    def test_imports(self):
        for where, node in walked():
            self.assertNotIsInstance(node, ast.Import, where)
            if isinstance(node, ast.ImportFrom):
                self.assertEqual(node.level, 0, where)
                self.assertRegex(node.module, r"^racetally\.[a-z_]+$", where)
                self.assertNotIn("*", [alias.name for alias in node.names], where)

    def test_the_top_of_each_file(self):
        for path, tree in trees():
            self.assertIsNotNone(ast.get_docstring(tree), path)
            bound = []
            for node in tree.body[1:]:
                self.assertIsInstance(node, (ast.ImportFrom, ast.FunctionDef, ast.ClassDef, ast.Assign), path)
                if isinstance(node, ast.Assign):
                    ast.literal_eval(node.value)
                    bound.append(node.targets[0].id)
                elif isinstance(node, ast.ImportFrom):
                    bound += [alias.name for alias in node.names]
                else:
                    bound.append(node.name)
            self.assertEqual(len(bound), len(set(bound)), path)

    def test_names(self):
        for path, tree in trees():
            bound = [node.id for node in ast.walk(tree) if isinstance(node, ast.Name) and isinstance(node.ctx, ast.Store)]
            bound += [node.arg for node in ast.walk(tree) if isinstance(node, ast.arg)]
            defs = [node.name for node in ast.walk(tree) if isinstance(node, (ast.FunctionDef, ast.ClassDef))]
            drawn = [alias.name for node in ast.walk(tree) if isinstance(node, ast.ImportFrom) for alias in node.names]
            for name in bound:
                self.assertNotIn(name, dir(builtins), path)
                self.assertNotIn(name, drawn, path)
            for name in bound + defs:
                self.assertTrue(name in DUNDERS or re.match("[A-Za-z]", name), (path, name))
            for node in ast.walk(tree):
                if isinstance(node, ast.Name) and node.id not in bound + defs + drawn:
                    self.assertIn(node.id, OWN_NAMES, path)

    def test_methods_and_values(self):
        methods = {node.name for where, node in walked() if isinstance(node, ast.FunctionDef)}
        values = {node.attr for where, node in walked()
                  if isinstance(node, ast.Attribute) and isinstance(node.ctx, ast.Store)}
        own = {node.name for where, one in walked() if isinstance(one, ast.ClassDef) for node in one.body
               if isinstance(node, ast.FunctionDef)}
        self.assertFalse(values & own)
        self.assertFalse((values | own) & PYTHONS_OWN - set(DUNDERS))
        for where, node in walked():
            if isinstance(node, ast.Attribute):
                self.assertIn(node.attr, sorted(methods | values) + METHODS, where)


if __name__ == "__main__":
    unittest.main()
