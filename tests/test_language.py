"""The package's files keep to the part of Python that can be looked at by a test (LANGUAGE.md, by rule)."""

import ast
import builtins
import pathlib
import re
import unittest

import votedsensors

FOLDER = pathlib.Path(votedsensors.__file__).parent

NODES = """Module Expr Constant ImportFrom alias FunctionDef arguments arg ClassDef Return Assign AugAssign If While For
Break Continue Pass Raise Try ExceptHandler Call keyword Name Load Store Attribute Subscript Slice List Tuple Dict
ListComp comprehension Lambda IfExp BoolOp And Or UnaryOp Not USub UAdd Invert BinOp Add Sub Mult FloorDiv Mod Pow
BitAnd BitOr BitXor LShift RShift Compare Eq NotEq Lt LtE Gt GtE Is IsNot In NotIn JoinedStr
FormattedValue""".split()
OWN_OF_PYTHON = """len range enumerate zip min max sum abs sorted reversed int str bool list tuple dict set frozenset
isinstance ord repr any all divmod Exception ValueError TypeError KeyError IndexError LookupError ZeroDivisionError
ArithmeticError OverflowError RuntimeError NotImplementedError StopIteration""".split()
METHODS = """append clear copy count endswith extend find get index insert isalnum isalpha isdigit islower isspace
isupper items join keys ljust lower lstrip partition pop remove replace reverse rfind rjust rpartition rsplit rstrip
setdefault split splitlines startswith strip update upper values zfill bit_length""".split()
WORDS = """type typing typing_extensions enum Enum IntEnum StrEnum Flag IntFlag Generic Protocol ABC ABCMeta
namedtuple NamedTuple TypedDict TYPE_CHECKING abstractmethod""".split()
DUNDERS = ("__init__", "__eq__", "__repr__", "__str__", "__len__")


def files():
    return sorted(path for path in FOLDER.rglob("*") if "__pycache__" not in path.parts)


def trees():
    return [(path.name, ast.parse(path.read_text("ascii"))) for path in files()]


def walk():
    return [(name, node) for name, tree in trees() for node in ast.walk(tree)]


def bound_names(node):
    if isinstance(node, (ast.FunctionDef, ast.ClassDef)):
        return [node.name]
    if isinstance(node, ast.arg):
        return [node.arg]
    if isinstance(node, ast.Name) and isinstance(node.ctx, ast.Store):
        return [node.id]
    if isinstance(node, ast.Attribute):
        return [node.attr]
    return []


def top_names(tree):
    targets = [node.targets[0] for node in tree.body if isinstance(node, ast.Assign)]
    return [found for node in tree.body + targets for found in bound_names(node)]


def is_plain(node):
    if isinstance(node, ast.UnaryOp):
        return isinstance(node.op, ast.USub) and is_plain(node.operand)
    if isinstance(node, ast.Tuple):
        return all(is_plain(part) for part in node.elts)
    return isinstance(node, ast.Constant)


class Language(unittest.TestCase):
    def test_files_lie_flat_with_plain_names(self):
        self.assertIn("desk.py", [path.name for path in files()])
        self.assertIn("__init__.py", [path.name for path in files()])
        for path in files():
            self.assertRegex(path.name, r"^(__init__|[a-z][a-z0-9_]*)\.py$")

    def test_signs_and_sizes(self):
        for path in files():
            text = path.read_bytes().decode("ascii")
            self.assertRegex(text, r"\A[\n -~]*\Z", path.name)
            self.assertLessEqual(len(text.split("\n")), 400, path.name)
            for line in text.split("\n"):
                self.assertLessEqual(len(line), 120, line)
        for name, node in walk():
            if isinstance(node, ast.FunctionDef):
                self.assertLessEqual(node.end_lineno - node.lineno + 1, 40, (name, node.name))

    def test_words_that_stand_nowhere(self):
        for path in files():
            text = path.read_text("ascii")
            self.assertEqual([word for word in WORDS if re.search(rf"\b{word}\b", text)], [], path.name)
            self.assertNotRegex(text, "dataclass|overload|contextmanager")

    def test_only_known_forms(self):
        for name, node in walk():
            where = (name, getattr(node, "lineno", 0))
            self.assertIn(node.__class__.__name__, NODES, where)
            if isinstance(node, ast.Constant):
                self.assertIn(node.value.__class__, (int, str, bool, None.__class__), where)
            if isinstance(node, ast.Assign):
                self.assertEqual(len(node.targets), 1, where)
                self.assertNotIsInstance(node.targets[0], (ast.Tuple, ast.List), where)
            if isinstance(node, (ast.For, ast.While)):
                self.assertEqual(node.orelse, [], where)
            if isinstance(node, (ast.FunctionDef, ast.ClassDef)):
                self.assertEqual(node.decorator_list, [], where)
            if isinstance(node, ast.arguments):
                self.assertFalse(node.vararg or node.kwarg or node.kwonlyargs or node.posonlyargs, where)
            if isinstance(node, ast.ListComp):
                self.assertEqual(len(node.generators), 1, where)
                self.assertLessEqual(len(node.generators[0].ifs), 1, where)
            if isinstance(node, ast.FormattedValue):
                self.assertIsInstance(node.value, ast.Name, where)

    def test_the_top_of_a_file(self):
        for name, tree in trees():
            for k, node in enumerate(tree.body):
                if k == 0:
                    self.assertIsNotNone(ast.get_docstring(tree), name)
                elif isinstance(node, ast.Assign):
                    self.assertTrue(is_plain(node.value), (name, node.lineno))
                else:
                    self.assertIsInstance(node, (ast.ImportFrom, ast.FunctionDef, ast.ClassDef), name)

    def test_imports(self):
        for name, tree in trees():
            imports = [node for node in ast.walk(tree) if isinstance(node, ast.ImportFrom)]
            self.assertEqual([node for node in imports if node not in tree.body], [], name)
            for node in imports:
                self.assertEqual(node.level, 0, name)
                source = ast.parse((FOLDER / (node.module.split(".")[1] + ".py")).read_text("ascii"))
                for part in node.names:
                    self.assertIn(part.name, top_names(source), name)

    def test_each_name_of_a_top_is_bound_once(self):
        for name, tree in trees():
            imported = [part.name for node in tree.body if isinstance(node, ast.ImportFrom) for part in node.names]
            names = top_names(tree) + imported
            self.assertEqual(sorted(names), sorted(set(names)), name)

    def test_no_parameter_or_local_is_called_like_a_class_or_an_import_or_a_name_of_python(self):
        for name, tree in trees():
            taken = [part.name for node in tree.body if isinstance(node, ast.ImportFrom) for part in node.names]
            taken += [node.name for node in tree.body if isinstance(node, ast.ClassDef)] + dir(builtins)
            for top in tree.body:
                if isinstance(top, (ast.FunctionDef, ast.ClassDef)):
                    for node in ast.walk(top):
                        if isinstance(node, (ast.arg, ast.Name)):
                            for found in bound_names(node):
                                self.assertNotIn(found, taken, (name, node.lineno))

    def test_names(self):
        kept = OWN_OF_PYTHON + list(DUNDERS)
        for name, node in walk():
            for found in bound_names(node):
                where = (name, node.lineno, found)
                self.assertTrue(found in DUNDERS or not found.startswith("_"), where)
                self.assertNotIn(found, OWN_OF_PYTHON, where)
        for name, tree in trees():
            nodes = list(ast.walk(tree))
            known = [found for node in nodes if not isinstance(node, ast.Attribute) for found in bound_names(node)]
            known += [part.name for node in nodes if isinstance(node, ast.ImportFrom) for part in node.names]
            for node in nodes:
                if isinstance(node, ast.Name):
                    self.assertIn(node.id, known + kept, (name, node.lineno))

    def test_methods(self):
        own = [node.name for name, node in walk() if isinstance(node, ast.FunctionDef)]
        for name, node in walk():
            if isinstance(node, ast.Call) and isinstance(node.func, ast.Attribute):
                self.assertIn(node.func.attr, METHODS + own, (name, node.lineno))

    def test_is_stands_beside_none_true_and_false(self):
        for name, node in walk():
            if isinstance(node, ast.Compare) and isinstance(node.ops[0], (ast.Is, ast.IsNot)):
                beside = node.comparators[0]
                self.assertTrue(isinstance(beside, ast.Constant) and beside.value in (None, True, False), name)

    def test_no_name_is_a_method_here_and_a_value_there(self):
        methods = []
        for name, node in walk():
            if isinstance(node, ast.ClassDef):
                methods += [part.name for part in node.body if isinstance(part, ast.FunctionDef)]
        stored = [node.attr for name, node in walk()
                  if isinstance(node, ast.Attribute) and isinstance(node.ctx, ast.Store)]
        self.assertEqual(sorted(set(methods) & set(stored)), [])


if __name__ == "__main__":
    unittest.main()
