"""The rules of the language that can be seen in the text of the package: a net, not a proof."""

import ast
import builtins
import pathlib
import re
import unittest

PACKAGE = pathlib.Path(__file__).resolve().parent.parent / "mergebases"
FILES = sorted(PACKAGE.glob("*.py"))

NODES = """Module Import ImportFrom alias FunctionDef ClassDef arguments arg Return Assign AugAssign For While If Raise
Try ExceptHandler Expr Pass Break Continue BoolOp BinOp UnaryOp Lambda IfExp Dict List Tuple ListComp comprehension
Compare Call Constant Attribute Subscript Slice Name JoinedStr FormattedValue keyword Load Store And Or Not Invert
USub Add Sub Mult FloorDiv Mod Pow LShift RShift BitOr BitXor BitAnd Eq NotEq Lt LtE Gt GtE Is IsNot In NotIn""".split()
OWN = """len range enumerate zip min max sum abs sorted reversed int str bool list tuple dict set frozenset isinstance ord
repr any all divmod Exception ValueError TypeError KeyError IndexError LookupError ZeroDivisionError ArithmeticError
OverflowError RuntimeError NotImplementedError AttributeError StopIteration""".split()
METHODS = """append clear copy count endswith extend find get index insert isalnum isalpha isdigit islower isspace isupper
items join keys ljust lower lstrip partition pop remove replace reverse rfind rjust rpartition rsplit rstrip setdefault
split splitlines startswith strip update upper values zfill bit_length""".split()
WORDS = """type typing typing_extensions enum Enum IntEnum StrEnum Flag IntFlag Generic Protocol ABC ABCMeta namedtuple
NamedTuple TypedDict TYPE_CHECKING abstractmethod""".split()
DUNDER = ["__init__", "__eq__", "__repr__", "__str__", "__len__"]


def nodes_of(path):
    return list(ast.walk(ast.parse(path.read_text(encoding="ascii"))))


class Language(unittest.TestCase):
    def test_there_are_files_and_nothing_else(self):
        self.assertIn(PACKAGE / "history.py", FILES)
        self.assertIn(PACKAGE / "__init__.py", FILES)
        others = [path.name for path in PACKAGE.iterdir() if path not in FILES and path.name != "__pycache__"]
        self.assertEqual(others, [])

    def test_signs_and_sizes(self):
        for path in FILES:
            text = path.read_bytes().decode("ascii")
            self.assertEqual([sign for sign in text if sign != "\n" and not " " <= sign <= "~"], [], path.name)
            lines = text.split("\n")
            self.assertLessEqual(len(lines), 400, path.name)
            self.assertLessEqual(max(len(line) for line in lines), 120, path.name)
            for node in nodes_of(path):
                if isinstance(node, ast.FunctionDef):
                    self.assertLessEqual(node.end_lineno - node.lineno + 1, 40, node.name)

    def test_words_that_stand_nowhere(self):
        for path in FILES:
            text = path.read_text(encoding="ascii")
            self.assertEqual([word for word in re.findall(r"\w+", text) if word in WORDS], [], path.name)
            self.assertIsNone(re.search("dataclass|overload|contextmanager", text), path.name)

    def test_kinds_of_nodes(self):
        for path in FILES:
            for node in nodes_of(path):
                self.assertIn(type(node).__name__, NODES, path.name)
                if isinstance(node, ast.Assign):
                    self.assertEqual(len(node.targets), 1)
                    self.assertNotIsInstance(node.targets[0], (ast.Tuple, ast.List))
                if isinstance(node, (ast.For, ast.While)):
                    self.assertEqual(node.orelse, [])
                if isinstance(node, ast.FunctionDef):
                    self.assertEqual(node.decorator_list, [])
                    self.assertIsNone(node.args.vararg or node.args.kwarg or node.returns)
                if isinstance(node, ast.Constant):
                    self.assertIn(type(node.value), (int, str, bool, type(None)))

    def test_texts_by_themselves_stand_at_the_top_alone(self):
        for path in FILES:
            tree = ast.parse(path.read_text(encoding="ascii"))
            self.assertIsNotNone(ast.get_docstring(tree), path.name)
            for node in ast.walk(tree):
                if isinstance(node, ast.Expr) and node is not tree.body[0]:
                    self.assertIsInstance(node.value, ast.Call, path.name)

    def test_imports_are_the_package_s_own(self):
        for path in FILES:
            for node in nodes_of(path):
                self.assertNotIsInstance(node, ast.Import)
                if isinstance(node, ast.ImportFrom):
                    self.assertTrue(node.level == 0 and node.module.startswith("mergebases."), path.name)

    def test_names(self):
        for path in FILES:
            nodes = nodes_of(path)
            bound = [node.id for node in nodes if isinstance(node, ast.Name) and isinstance(node.ctx, ast.Store)]
            bound += [node.arg for node in nodes if isinstance(node, ast.arg)]
            bound += [node.name for node in nodes if isinstance(node, (ast.FunctionDef, ast.ClassDef))]
            for name in bound:
                self.assertFalse(name in dir(builtins), name)
                self.assertTrue(name in DUNDER or not name.startswith("_"), name)
            used = [node.id for node in nodes if isinstance(node, ast.Name)]
            self.assertEqual([name for name in used if name in dir(builtins) and name not in OWN], [], path.name)

    def test_methods_and_values(self):
        nodes = [node for path in FILES for node in nodes_of(path)]
        classes = [node for node in nodes if isinstance(node, ast.ClassDef)]
        own = [item.name for node in classes for item in node.body if isinstance(item, ast.FunctionDef)]
        called = [node.func.attr for node in nodes if isinstance(node, ast.Call) and isinstance(node.func, ast.Attribute)]
        self.assertEqual([name for name in called if name not in METHODS + own], [])
        kept = [node.attr for node in nodes if isinstance(node, ast.Attribute) and isinstance(node.ctx, ast.Store)]
        self.assertEqual([name for name in kept if name in own], [])


if __name__ == "__main__":
    unittest.main()
