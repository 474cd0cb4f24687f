"""The form of the package's files: those rules of LANGUAGE.md that can be read off a file by simple means.

It does not take the place of LANGUAGE.md: what passes here may still be outside it.
"""

import ast
import builtins
import pathlib
import re
import unittest

PACKAGE = pathlib.Path(__file__).resolve().parent.parent / "growrow"

WORDS = ("type typing typing_extensions enum Enum IntEnum StrEnum Flag IntFlag Generic Protocol ABC ABCMeta namedtuple "
         "NamedTuple TypedDict TYPE_CHECKING abstractmethod").split()
PARTS = ("dataclass", "overload", "contextmanager")

NODES = ("Module ImportFrom alias FunctionDef arguments arg Lambda ClassDef Return Assign AugAssign If While For Break "
         "Continue Pass Raise Try ExceptHandler Expr Constant Name Load Store List Tuple Dict Set ListComp "
         "comprehension BinOp UnaryOp BoolOp Compare IfExp Call keyword Attribute Subscript Slice JoinedStr "
         "FormattedValue Add Sub Mult FloorDiv Mod Pow LShift RShift BitOr BitXor BitAnd Invert Not UAdd USub And Or "
         "Eq NotEq Lt LtE Gt GtE Is IsNot In NotIn").split()

OWN_NAMES = ("len range enumerate zip min max sum abs sorted reversed int str bool list tuple dict set frozenset "
             "isinstance ord repr any all divmod Exception ValueError TypeError KeyError IndexError LookupError "
             "ZeroDivisionError ArithmeticError OverflowError RuntimeError NotImplementedError AttributeError "
             "StopIteration").split()

METHODS = ("__init__", "__eq__", "__repr__", "__str__", "__len__")


def bound_names(tree):
    names = []
    for node in ast.walk(tree):
        if isinstance(node, (ast.FunctionDef, ast.ClassDef)):
            names.append(node.name)
        if isinstance(node, ast.arg):
            names.append(node.arg)
        if isinstance(node, ast.Name) and isinstance(node.ctx, ast.Store):
            names.append(node.id)
    return [name for name in names if name not in METHODS]


class FormTest(unittest.TestCase):
    def each_file(self):
        for path in sorted(PACKAGE.rglob("*.py")):
            yield path, path.read_bytes().decode("utf-8")

    def each_tree(self):
        for path, text in self.each_file():
            yield path, ast.parse(text)

    def test_only_plainly_named_files_lie_in_the_package(self):
        self.assertTrue((PACKAGE / "__init__.py").is_file())
        for path in PACKAGE.rglob("*"):
            if "__pycache__" not in path.parts:
                self.assertRegex(path.name, r"\A(__init__|__main__|[a-z][a-z0-9_]*)\.py\Z")

    def test_signs_lines_and_sizes(self):
        for path, text in self.each_file():
            with self.subTest(path.name):
                self.assertRegex(text, r"\A[ -~\n]*\Z")
                lines = text.split("\n")
                self.assertLessEqual(len(lines), 400)
                self.assertLessEqual(max(len(line) for line in lines), 120)

    def test_words_that_stand_nowhere(self):
        for path, text in self.each_file():
            for word in re.findall(r"\w+", text):
                with self.subTest(file=path.name, word=word):
                    self.assertNotIn(word, WORDS)
                    self.assertFalse(any(part in word for part in PARTS))

    def test_only_the_statements_and_expressions_that_are_allowed(self):
        for path, tree in self.each_tree():
            for node in ast.walk(tree):
                with self.subTest(file=path.name, line=getattr(node, "lineno", 0)):
                    self.assertIn(type(node).__name__, NODES)
                    if isinstance(node, ast.Constant):
                        self.assertNotIsInstance(node.value, (float, complex, bytes))

    def test_short_functions_without_decorators(self):
        for path, tree in self.each_tree():
            for node in ast.walk(tree):
                if isinstance(node, (ast.FunctionDef, ast.ClassDef)):
                    with self.subTest(file=path.name, name=node.name):
                        self.assertEqual(node.decorator_list, [])
                        if isinstance(node, ast.FunctionDef):
                            self.assertLessEqual(node.end_lineno - node.lineno + 1, 40)

    def test_imports_are_of_the_package_by_full_names(self):
        for path, tree in self.each_tree():
            for node in ast.walk(tree):
                if isinstance(node, ast.ImportFrom):
                    with self.subTest(file=path.name, line=node.lineno):
                        self.assertEqual(node.level, 0)
                        self.assertRegex(node.module, r"\Agrowrow\.[a-z]")
                        self.assertNotIn("*", [name.name for name in node.names])

    def test_names(self):
        for path, tree in self.each_tree():
            for name in bound_names(tree):
                with self.subTest(file=path.name, name=name):
                    self.assertFalse(name.startswith("_"))
                    self.assertFalse(hasattr(builtins, name))

    def test_only_those_names_of_pythons_own_that_are_allowed(self):
        for path, tree in self.each_tree():
            for node in ast.walk(tree):
                if isinstance(node, ast.Name) and hasattr(builtins, node.id):
                    with self.subTest(file=path.name, line=node.lineno):
                        self.assertIn(node.id, OWN_NAMES)


if __name__ == "__main__":
    unittest.main()
