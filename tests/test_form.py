"""The form of the package's files: those rules of LANGUAGE.md that can be read off a file by simple means.

It does not take the place of LANGUAGE.md: what passes here may still be outside it.
"""

import ast
import builtins
import pathlib
import re
import unittest

PACKAGE = pathlib.Path(__file__).resolve().parent.parent / "growrow"

WORDS = ("type typing typing_extensions enum Enum IntEnum StrEnum Flag IntFlag Generic Protocol ABC ABCMeta namedtuple "
         "NamedTuple TypedDict TYPE_CHECKING abstractmethod").split()
PARTS = ("dataclass", "overload", "contextmanager")

NODES = ("Module ImportFrom alias FunctionDef arguments arg Lambda ClassDef Return Assign AugAssign If While For Break "
         "Continue Pass Raise Try ExceptHandler Expr Constant Name Load Store List Tuple Dict Set ListComp "
         "comprehension BinOp UnaryOp BoolOp Compare IfExp Call keyword Attribute Subscript Slice JoinedStr "
         "FormattedValue Add Sub Mult FloorDiv Mod Pow LShift RShift BitOr BitXor BitAnd Invert Not UAdd USub And Or "
         "Eq NotEq Lt LtE Gt GtE Is IsNot In NotIn").split()

OWN_NAMES = ("len range enumerate zip min max sum abs sorted reversed int str bool list tuple dict set frozenset "
             "isinstance ord repr any all divmod Exception ValueError TypeError KeyError IndexError LookupError "
             "ZeroDivisionError ArithmeticError OverflowError RuntimeError NotImplementedError AttributeError "
             "StopIteration").split()

METHODS = ("__init__", "__eq__", "__repr__", "__str__", "__len__")

PYTHONS_METHODS = ("append clear copy count endswith extend find get index insert isalnum isalpha isdigit islower "
                   "isspace isupper items join keys ljust lower lstrip partition pop remove replace reverse rfind "
                   "rjust rpartition rsplit rstrip setdefault split splitlines startswith strip update upper values "
                   "zfill bit_length").split()

NAMES_NOT_USED = ("register mro elements open input version_info with_traceback add_note attrgetter breakpoint "
                  "builtins compile copyright credits delattr dir eval exec exit gc getattr globals hasattr help id "
                  "importlib license locals methodcaller os quit setattr super vars sys chr print format format_map "
                  "args encode").split()

WALKED = ("zip", "enumerate", "reversed", "range")
WALKERS = ("list", "tuple", "dict", "sorted", "sum", "any", "all", "enumerate", "zip", "min", "max")
KEYWORDS = {"sorted": ("key", "reverse"), "min": ("key", "default"), "max": ("key", "default"), "sum": ("start",),
            "enumerate": ("start",), "zip": ("strict",)}
PLAIN_TOP = (ast.ImportFrom, ast.FunctionDef, ast.ClassDef, ast.Assign)


def bound_names(tree):
    names = []
    for node in ast.walk(tree):
        if isinstance(node, (ast.FunctionDef, ast.ClassDef)):
            names.append(node.name)
        if isinstance(node, ast.arg):
            names.append(node.arg)
        if isinstance(node, ast.Name) and isinstance(node.ctx, ast.Store):
            names.append(node.id)
    return [name for name in names if name not in METHODS]


def called_name(node):
    """The name of a plain function that is called there, or none."""
    return node.func.id if isinstance(node, ast.Call) and isinstance(node.func, ast.Name) else None


def called_method(node):
    return node.func.attr if isinstance(node, ast.Call) and isinstance(node.func, ast.Attribute) else None


def parents_of(tree):
    return {child: parent for parent in ast.walk(tree) for child in ast.iter_child_nodes(parent)}


def is_docstring(node):
    return isinstance(node, ast.Expr) and isinstance(node.value, ast.Constant) and isinstance(node.value.value, str)


def own_values(tree):
    return [node.attr for node in ast.walk(tree) if isinstance(node, ast.Attribute) and isinstance(node.ctx, ast.Store)]


def own_methods(tree):
    return [part.name for node in ast.walk(tree) if isinstance(node, ast.ClassDef)
            for part in node.body if isinstance(part, ast.FunctionDef)]


def top_names(tree):
    names = []
    for node in tree.body:
        if isinstance(node, (ast.FunctionDef, ast.ClassDef)):
            names.append(node.name)
        if isinstance(node, ast.ImportFrom):
            names.extend(name.asname or name.name for name in node.names)
        if isinstance(node, ast.Assign):
            names.extend(target.id for target in node.targets)
    return names


def defined_names(tree):
    return [node.name for node in tree.body if isinstance(node, (ast.FunctionDef, ast.ClassDef))] + [
        target.id for node in tree.body if isinstance(node, ast.Assign) for target in node.targets]


class FormTest(unittest.TestCase):
    def each_node(self, kinds):
        for path, tree in self.each_tree():
            parents = parents_of(tree)
            for node in ast.walk(tree):
                if isinstance(node, kinds):
                    yield self.subTest(file=path.name, line=getattr(node, "lineno", 0)), node, parents

    def each_file(self):
        for path in sorted(PACKAGE.rglob("*.py")):
            yield path, path.read_bytes().decode("utf-8")

    def each_tree(self):
        for path, text in self.each_file():
            yield path, ast.parse(text)

    def test_only_plainly_named_files_lie_in_the_package(self):
        self.assertTrue((PACKAGE / "__init__.py").is_file())
        for path in PACKAGE.rglob("*"):
            if "__pycache__" not in path.parts:
                self.assertRegex(path.name, r"\A(__init__|__main__|[a-z][a-z0-9_]*)\.py\Z")

    def test_signs_lines_and_sizes(self):
        for path, text in self.each_file():
            with self.subTest(path.name):
                self.assertRegex(text, r"\A[ -~\n]*\Z")
                lines = text.split("\n")
                self.assertLessEqual(len(lines), 400)
                self.assertLessEqual(max(len(line) for line in lines), 120)

    def test_words_that_stand_nowhere(self):
        for path, text in self.each_file():
            for word in re.findall(r"\w+", text):
                with self.subTest(file=path.name, word=word):
                    self.assertNotIn(word, WORDS)
                    self.assertFalse(any(part in word for part in PARTS))

    def test_only_the_statements_and_expressions_that_are_allowed(self):
        for path, tree in self.each_tree():
            for node in ast.walk(tree):
                with self.subTest(file=path.name, line=getattr(node, "lineno", 0)):
                    self.assertIn(type(node).__name__, NODES)
                    if isinstance(node, ast.Constant):
                        self.assertNotIsInstance(node.value, (float, complex, bytes))

    def test_short_functions_without_decorators(self):
        for path, tree in self.each_tree():
            for node in ast.walk(tree):
                if isinstance(node, (ast.FunctionDef, ast.ClassDef)):
                    with self.subTest(file=path.name, name=node.name):
                        self.assertEqual(node.decorator_list, [])
                        if isinstance(node, ast.FunctionDef):
                            self.assertLessEqual(node.end_lineno - node.lineno + 1, 40)

    def test_imports_are_of_the_package_by_full_names(self):
        for path, tree in self.each_tree():
            for node in ast.walk(tree):
                if isinstance(node, ast.ImportFrom):
                    with self.subTest(file=path.name, line=node.lineno):
                        self.assertEqual(node.level, 0)
                        self.assertRegex(node.module, r"\Agrowrow\.[a-z]")
                        self.assertNotIn("*", [name.name for name in node.names])

    def test_names(self):
        for path, tree in self.each_tree():
            for name in bound_names(tree):
                with self.subTest(file=path.name, name=name):
                    self.assertFalse(name.startswith("_"))
                    self.assertFalse(hasattr(builtins, name))

    def test_only_those_names_of_pythons_own_that_are_allowed(self):
        for path, tree in self.each_tree():
            for node in ast.walk(tree):
                if isinstance(node, ast.Name) and hasattr(builtins, node.id):
                    with self.subTest(file=path.name, line=node.lineno):
                        self.assertIn(node.id, OWN_NAMES)

    def test_a_files_top_is_plain_and_binds_each_name_once(self):
        for path, tree in self.each_tree():
            with self.subTest(path.name):
                body = tree.body[1:] if tree.body and is_docstring(tree.body[0]) else tree.body
                for node in body:
                    self.assertIsInstance(node, PLAIN_TOP)
                    if isinstance(node, ast.Assign):
                        self.assertIsInstance(ast.literal_eval(node.value), (int, str, list, tuple, dict))
                names = top_names(tree)
                self.assertEqual(len(names), len(set(names)))

    def test_classes_hold_methods_alone(self):
        for spot, node, parents in self.each_node(ast.ClassDef):
            with spot:
                self.assertLessEqual(len(node.bases), 1)
                self.assertEqual(node.keywords, [])
                for part in node.body:
                    self.assertIsInstance(part, (ast.FunctionDef, ast.Pass))
                names = [part.name for part in node.body if isinstance(part, ast.FunctionDef)]
                self.assertEqual(len(names), len(set(names)))

    def test_parameters_are_plain(self):
        for spot, node, parents in self.each_node(ast.arguments):
            with spot:
                self.assertEqual((node.vararg, node.kwarg, node.kwonlyargs, node.posonlyargs), (None, None, [], []))
                for part in node.args:
                    self.assertIsNone(part.annotation)

    def test_statements(self):
        kinds = (ast.Assign, ast.For, ast.While, ast.Try, ast.Expr, ast.Raise, ast.FunctionDef)
        for spot, node, parents in self.each_node(kinds):
            with spot:
                if isinstance(node, ast.Assign):
                    self.assertEqual(len(node.targets), 1)
                    self.assertNotIsInstance(node.targets[0], (ast.Tuple, ast.List))
                if isinstance(node, (ast.For, ast.While)):
                    self.assertEqual(node.orelse, [])
                if isinstance(node, ast.Try):
                    self.assertEqual(node.finalbody, [])
                if isinstance(node, ast.Expr) and not isinstance(parents[node], ast.Module):
                    self.assertIsInstance(node.value, ast.Call)
                if isinstance(node, ast.Raise):
                    self.assertIsNotNone(called_name(node.exc))
                if isinstance(node, ast.FunctionDef):
                    self.assertIsNone(node.returns)

    def test_names_are_drawn_from_the_file_that_defines_them(self):
        trees = {path.stem: tree for path, tree in self.each_tree()}
        drawn = {}
        for stem, tree in trees.items():
            drawn[stem] = [node.module.split(".")[1] for node in tree.body if isinstance(node, ast.ImportFrom)]
            for node in tree.body:
                if isinstance(node, ast.ImportFrom):
                    for name in node.names:
                        with self.subTest(file=stem, name=name.name):
                            self.assertIn(name.name, defined_names(trees[node.module.split(".")[1]]))
        self.no_two_draw_from_one_another(drawn)

    def no_two_draw_from_one_another(self, drawn):
        left = dict(drawn)
        while left:
            free = [stem for stem, others in left.items() if not any(other in left for other in others)]
            self.assertNotEqual(free, [], "files draw from one another in a ring")
            left = {stem: others for stem, others in left.items() if stem not in free}

    def test_no_local_is_called_like_a_class_or_an_import_of_its_file(self):
        for path, tree in self.each_tree():
            top = [node.name for node in tree.body if isinstance(node, ast.ClassDef)]
            top += [name.name for node in tree.body if isinstance(node, ast.ImportFrom) for name in node.names]
            for node in ast.walk(tree):
                name = node.arg if isinstance(node, ast.arg) else getattr(node, "id", None)
                if isinstance(node, ast.arg) or isinstance(getattr(node, "ctx", None), ast.Store):
                    with self.subTest(file=path.name, name=name):
                        self.assertNotIn(name, top)

    def test_names_that_are_not_used(self):
        for spot, node, parents in self.each_node((ast.Name, ast.Attribute)):
            with spot:
                self.assertNotIn(node.id if isinstance(node, ast.Name) else node.attr, NAMES_NOT_USED)

    def test_methods_and_values(self):
        trees = [tree for path, tree in self.each_tree()]
        methods = {name for tree in trees for name in own_methods(tree)}
        values = {name for tree in trees for name in own_values(tree)}
        self.assertEqual(methods & values, set())
        for name in (methods | values) - set(METHODS):
            with self.subTest(name):
                self.assertFalse(any(hasattr(kind, name) for kind in (str, int, list, dict, set, bytes, tuple)))
        for spot, node, parents in self.each_node(ast.Attribute):
            with spot:
                if node.attr in values:
                    continue
                self.assertIn(node.attr, list(methods) + PYTHONS_METHODS)
                parent = parents[node]
                self.assertTrue(isinstance(parent, ast.Call) and parent.func is node)

    def test_is_stands_beside_none_true_and_false_alone(self):
        for spot, node, parents in self.each_node(ast.Compare):
            with spot:
                for sign, value in zip(node.ops, node.comparators):
                    if isinstance(sign, (ast.Is, ast.IsNot)):
                        self.assertTrue(isinstance(value, ast.Constant) and value.value in (None, True, False))

    def test_keywords(self):
        for spot, node, parents in self.each_node(ast.Call):
            with spot:
                name = called_name(node)
                if called_method(node) in PYTHONS_METHODS or hasattr(builtins, name or ""):
                    for keyword in node.keywords:
                        self.assertIn(keyword.arg, KEYWORDS.get(name, ()))

    def test_pythons_own_are_called_and_not_kept(self):
        for spot, node, parents in self.each_node(ast.Name):
            with spot:
                if node.id in OWN_NAMES and not node.id[0].isupper():
                    parent = parents[node]
                    stands_by = isinstance(parent, ast.Tuple) or called_name(parent) == "isinstance"
                    self.assertTrue(stands_by or (isinstance(parent, ast.Call) and parent.func is node))

    def test_walked_on_the_spot(self):
        for spot, node, parents in self.each_node(ast.Call):
            with spot:
                if called_name(node) in WALKED or called_method(node) in ("items", "keys", "values"):
                    parent = parents[node]
                    in_a_loop = isinstance(parent, (ast.For, ast.comprehension)) and parent.iter is node
                    in_a_walker = called_name(parent) in WALKERS or called_method(parent) == "join"
                    self.assertTrue(in_a_loop or in_a_walker)

    def test_sets_are_not_kept(self):
        for spot, node, parents in self.each_node(ast.Call):
            with spot:
                if called_name(node) in ("set", "frozenset"):
                    parent = parents[node]
                    while isinstance(parent, ast.BinOp):
                        parent = parents[parent]
                    self.assertTrue(isinstance(parent, ast.Compare) or called_name(parent) in ("sorted", "len"))

    def test_numbers_and_texts(self):
        for spot, node, parents in self.each_node((ast.BinOp, ast.Constant)):
            with spot:
                if isinstance(node, ast.BinOp) and isinstance(node.op, ast.Pow):
                    self.assertTrue(isinstance(node.right, ast.Constant) and 0 <= node.right.value <= 64)
                if isinstance(node, ast.Constant) and isinstance(node.value, str):
                    self.assertNotIn("%", node.value)


if __name__ == "__main__":
    unittest.main()
