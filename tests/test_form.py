"""The package's form: what shared/LANGUAGE.md asks of its files, as far as a plain look can tell."""
import ast
import builtins
import re
import unittest
from pathlib import Path

PACKAGE = Path(__file__).resolve().parent.parent / "skymatch"
FILES = sorted(path for path in PACKAGE.rglob("*") if path.is_file() and "__pycache__" not in path.parts)

KINDS = (
    "Module FunctionDef arguments arg Return Assign AugAssign For While If Raise Try ExceptHandler Expr Pass Break "
    "Continue BoolOp And Or BinOp Add Sub Mult FloorDiv Mod Pow LShift RShift BitOr BitXor BitAnd UnaryOp Not USub "
    "Invert Lambda IfExp Dict ListComp comprehension Compare Eq NotEq Lt LtE Gt GtE Is IsNot In NotIn Call keyword "
    "Constant Attribute Subscript Name List Tuple Slice Load Store"
).split()

PYTHONS_OWN = (
    "len range enumerate zip min max sum abs sorted reversed int str bool list tuple dict set frozenset isinstance "
    "ord repr any all divmod"
).split()

METHODS = "append clear copy count extend get index insert items keys pop remove reverse setdefault update values".split()

WORDS_NOWHERE = (
    "type typing typing_extensions enum Enum IntEnum StrEnum Flag IntFlag Generic Protocol ABC ABCMeta namedtuple "
    "NamedTuple TypedDict TYPE_CHECKING abstractmethod"
).split()


def names_bound(tree):
    bound = {node.name for node in ast.walk(tree) if isinstance(node, ast.FunctionDef)}
    bound |= {node.arg for node in ast.walk(tree) if isinstance(node, ast.arg)}
    return bound | {node.id for node in ast.walk(tree) if isinstance(node, ast.Name) and isinstance(node.ctx, ast.Store)}


def names_called(function):
    calls = [node for node in ast.walk(function) if isinstance(node, ast.Call)]
    return {call.func.id for call in calls if isinstance(call.func, ast.Name)}


class Form(unittest.TestCase):
    def each_file(self):
        for path in FILES:
            text = path.read_text(encoding="utf-8")
            yield text, ast.parse(text, filename=path.name)

    def test_files(self):
        self.assertIn(PACKAGE / "__init__.py", FILES)
        self.assertIn(PACKAGE / "matched.py", FILES)
        for path in FILES:
            self.assertRegex(path.name, r"\A(__init__|[a-z][a-z0-9_]*)\.py\Z")

    def test_signs_and_size(self):
        for text, tree in self.each_file():
            self.assertRegex(text, r"\A[ -~\n]*\Z")
            self.assertLessEqual(len(text.splitlines()), 400)
            self.assertLessEqual(max(map(len, text.splitlines())), 120)
            for node in ast.walk(tree):
                if isinstance(node, ast.FunctionDef):
                    self.assertLessEqual(node.end_lineno - node.lineno + 1, 40, node.name)

    def test_words_that_stand_nowhere(self):
        for text, tree in self.each_file():
            words = set(re.findall(r"\w+", text))
            self.assertEqual(words & set(WORDS_NOWHERE), set())

    def test_statements_and_expressions(self):
        for text, tree in self.each_file():
            for node in ast.walk(tree):
                # No import is among the kinds: the document says that the program imports nothing.
                self.assertIn(type(node).__name__, KINDS, getattr(node, "lineno", None))
                if isinstance(node, ast.Constant):
                    self.assertIn(type(node.value), (int, str, bool, type(None)))
                if isinstance(node, ast.Assign):
                    self.assertEqual(len(node.targets), 1)
                if isinstance(node, ast.Attribute):
                    self.assertIn(node.attr, METHODS)
                if isinstance(node, (ast.For, ast.While)):
                    self.assertEqual(node.orelse, [])

    def test_names(self):
        for text, tree in self.each_file():
            bound = names_bound(tree)
            self.assertEqual(bound & set(dir(builtins)), set())
            for name in bound:
                self.assertRegex(name, r"\A[A-Za-z][A-Za-z0-9_]*\Z")
            used = {node.id for node in ast.walk(tree) if isinstance(node, ast.Name)}
            self.assertEqual(used - bound - set(PYTHONS_OWN), set())

    def test_the_top_of_a_file_binds_each_name_once(self):
        for text, tree in self.each_file():
            bound = []
            for k, node in enumerate(tree.body):
                if k == 0:
                    self.assertIsInstance(ast.get_docstring(tree), str)
                elif isinstance(node, ast.FunctionDef):
                    bound.append(node.name)
                else:
                    self.assertIsInstance(node, ast.Assign, node.lineno)
                    self.assertIs(type(ast.literal_eval(node.value)), int)
                    bound.append(node.targets[0].id)
            self.assertEqual(len(bound), len(set(bound)))

    def test_is_stands_beside_none_alone_and_texts_are_plain(self):
        for text, tree in self.each_file():
            for node in ast.walk(tree):
                if isinstance(node, ast.Compare) and isinstance(node.ops[0], (ast.Is, ast.IsNot)):
                    self.assertIsInstance(node.comparators[0], ast.Constant, node.lineno)
                if isinstance(node, ast.Constant) and isinstance(node.value, str):
                    self.assertNotIn("%", node.value)

    def test_no_function_comes_back_to_itself(self):
        for text, tree in self.each_file():
            calls = {node.name: names_called(node) for node in tree.body if isinstance(node, ast.FunctionDef)}
            while calls:
                # Those that call none of the ones left are done with; where none is, they go round in a ring.
                done = [name for name in calls if not calls[name] & set(calls)]
                self.assertNotEqual(done, [], sorted(calls))
                for name in done:
                    del calls[name]


if __name__ == "__main__":
    unittest.main()
