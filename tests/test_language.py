"""The part of Python that the package keeps to, as far as its text shows it."""

import ast
import builtins
import pathlib
import re
import unittest

PACKAGE = pathlib.Path(__file__).resolve().parent.parent / "twobands"
FILES = sorted(path for path in PACKAGE.rglob("*") if "__pycache__" not in path.parts)
OWN_NAMES = set(
    "len range enumerate zip min max sum abs sorted reversed int str bool list tuple dict isinstance ord repr any"
    " all divmod".split())
METHODS = set(
    "append clear copy count endswith extend find get index insert items join keys pop remove replace reverse"
    " setdefault split startswith strip update values".split())
STATEMENTS = (ast.FunctionDef, ast.ClassDef, ast.Assign, ast.AugAssign, ast.If, ast.While, ast.For,
              ast.Return, ast.Break, ast.Continue, ast.Pass, ast.Expr)
EXPRESSIONS = (ast.Constant, ast.Name, ast.Attribute, ast.Subscript, ast.Slice, ast.Call, ast.BinOp,
               ast.UnaryOp, ast.BoolOp, ast.Compare, ast.IfExp, ast.List, ast.Tuple, ast.Dict, ast.ListComp)
WORDS = re.compile(
    r"\b(type|typing|typing_extensions|enum|Enum|IntEnum|StrEnum|Flag|IntFlag|Generic|Protocol|ABC|ABCMeta"
    r"|namedtuple|NamedTuple|TypedDict|TYPE_CHECKING|abstractmethod)\b|dataclass|overload|contextmanager")


def bound_names(tree):
    for node in ast.walk(tree):
        if isinstance(node, (ast.FunctionDef, ast.ClassDef)):
            yield node.name
        elif isinstance(node, ast.arg):
            yield node.arg
        elif isinstance(node, (ast.Name, ast.Attribute)) and isinstance(node.ctx, ast.Store):
            yield node.id if isinstance(node, ast.Name) else node.attr


class Language(unittest.TestCase):
    def each(self):
        texts = [path.read_text(encoding="utf-8") for path in FILES]
        return [(text, ast.parse(text)) for text in texts]

    def test_the_files(self):
        self.assertEqual([path.name for path in FILES], ["__init__.py", "ends.py"])

    def test_signs_and_sizes(self):
        for text, tree in self.each():
            self.assertRegex(text, r"\A[ -~\n]*\Z")
            self.assertLessEqual(len(text.splitlines()), 400)
            self.assertLessEqual(max(map(len, text.splitlines())), 120)
            for node in ast.walk(tree):
                if isinstance(node, ast.FunctionDef):
                    self.assertLessEqual(node.end_lineno - node.lineno + 1, 40)

    def test_words_that_stand_nowhere(self):
        for text, tree in self.each():
            self.assertIsNone(WORDS.search(text))

    def test_statements_and_expressions(self):
        for text, tree in self.each():
            for node in ast.walk(tree):
                if isinstance(node, ast.stmt):
                    self.assertIsInstance(node, STATEMENTS)
                if isinstance(node, ast.expr):
                    self.assertIsInstance(node, EXPRESSIONS)
                if isinstance(node, ast.Constant):
                    self.assertIn(type(node.value), (int, str, bool, type(None)))
                if isinstance(node, ast.Assign):
                    self.assertEqual(len(node.targets), 1)
                    self.assertNotIsInstance(node.targets[0], (ast.Tuple, ast.List))
                self.assertNotIsInstance(node, (ast.Div, ast.Pow, ast.Is, ast.IsNot))

    def test_docstrings_stand_at_the_top_alone(self):
        for text, tree in self.each():
            lone = [node for node in ast.walk(tree) if isinstance(node, ast.Expr)]
            self.assertEqual([node for node in lone if not isinstance(node.value, ast.Call)], tree.body[:1])

    def test_no_decorators_annotations_or_stars(self):
        for text, tree in self.each():
            for node in ast.walk(tree):
                self.assertFalse(getattr(node, "decorator_list", []))
                self.assertIsNone(getattr(node, "annotation", None))
                self.assertIsNone(getattr(node, "returns", None))
                if isinstance(node, ast.arguments):
                    self.assertFalse(node.vararg or node.kwarg or node.kwonlyargs or node.posonlyargs)

    def test_names(self):
        for text, tree in self.each():
            for name in bound_names(tree):
                self.assertRegex(name, r"\A([A-Za-z][A-Za-z0-9_]*|__init__)\Z")
            plain = {node.id for node in ast.walk(tree) if isinstance(node, ast.Name)}
            self.assertLessEqual(plain & set(dir(builtins)), OWN_NAMES)
            self.assertFalse(set(bound_names(tree)) & set(dir(builtins)))

    def test_a_name_is_bound_once_at_the_top(self):
        for text, tree in self.each():
            names = [getattr(node, "name", None) or node.targets[0].id
                     for node in tree.body if not isinstance(node, ast.Expr)]
            self.assertEqual(len(names), len(set(names)))
            for node in tree.body:
                if isinstance(node, ast.Assign):
                    ast.literal_eval(node.value)

    def test_methods_and_values_of_objects(self):
        taken = {name for kind in (str, int, list, dict, set, bytes) for name in dir(kind)}
        for text, tree in self.each():
            methods = {item.name for node in tree.body if isinstance(node, ast.ClassDef) for item in node.body}
            values = {node.attr for node in ast.walk(tree)
                      if isinstance(node, ast.Attribute) and isinstance(node.ctx, ast.Store)}
            called = {node.func.attr for node in ast.walk(tree)
                      if isinstance(node, ast.Call) and isinstance(node.func, ast.Attribute)}
            self.assertFalse(methods & values)
            self.assertFalse((methods - {"__init__"} | values) & taken)
            self.assertLessEqual(called, methods | METHODS)


if __name__ == "__main__":
    unittest.main()
