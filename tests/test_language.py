"""The package keeps to the small part of Python that it is written in, as far as a test can see it."""

import ast
import builtins
import re
import unittest
from pathlib import Path

PACKAGE = Path(__file__).resolve().parent.parent / "hedgemerge"
FILES = sorted(PACKAGE.glob("*.py"))

NODES = """Module Expr Import ImportFrom alias FunctionDef ClassDef arguments arg Return Assign AugAssign For While If
Raise Try ExceptHandler Pass Break Continue BoolOp BinOp UnaryOp Lambda IfExp Dict Set ListComp comprehension Compare
Call JoinedStr FormattedValue Constant Attribute Subscript Name List Tuple Slice Load Store And Or Add Sub Mult
FloorDiv Mod Pow LShift RShift BitOr BitXor BitAnd Invert Not UAdd USub Eq NotEq Lt LtE Gt GtE Is IsNot In
NotIn""".split()

OWN_NAMES = """len range enumerate zip min max sum abs sorted reversed int str bool list tuple dict set frozenset
isinstance ord repr any all divmod Exception ValueError TypeError KeyError IndexError LookupError ZeroDivisionError
ArithmeticError OverflowError RuntimeError NotImplementedError AttributeError StopIteration""".split()

METHODS = """append clear copy count endswith extend find get index insert isalnum isalpha isdigit islower isspace
isupper items join keys ljust lower lstrip partition pop remove replace reverse rfind rjust rpartition rsplit rstrip
setdefault split splitlines startswith strip update upper values zfill bit_length""".split()

WORDS = """type typing typing_extensions enum Enum IntEnum StrEnum Flag IntFlag Generic Protocol ABC ABCMeta
namedtuple NamedTuple TypedDict TYPE_CHECKING abstractmethod""".split()

OUT = """register mro elements open input version_info with_traceback add_note attrgetter breakpoint builtins compile
copyright credits delattr dir eval exec exit gc getattr globals hasattr help id importlib license locals methodcaller
os quit setattr super vars sys format format_map chr""".split()

LAZY = ("zip", "enumerate", "reversed", "range", "items", "keys", "values")


def is_special(name):
    return name in ("__init__", "__eq__", "__repr__", "__str__", "__len__")


def called_name(node):
    function = node.func
    return function.attr if isinstance(function, ast.Attribute) else getattr(function, "id", None)


class Language(unittest.TestCase):

    def setUp(self):
        self.trees = {path: ast.parse(path.read_text("ascii")) for path in FILES}

    def walk(self, *kinds):
        for path, tree in self.trees.items():
            for node in ast.walk(tree):
                if isinstance(node, kinds):
                    yield path.name, node

    def test_files(self):
        found = [path for path in PACKAGE.rglob("*") if "__pycache__" not in path.parts]
        self.assertEqual(sorted(found), FILES)
        self.assertIn(PACKAGE / "__init__.py", FILES)
        for path in FILES:
            self.assertRegex(path.name, r"^[a-z0-9_]+\.py$")
            self.assertNotIn(path.stem, dir(builtins))

    def test_signs_and_sizes(self):
        for path in FILES:
            text = path.read_bytes()
            self.assertTrue(all(byte == 10 or 32 <= byte <= 126 for byte in text), path)
            rows = text.decode().split("\n")
            self.assertLessEqual(len(rows), 401)
            self.assertLessEqual(max(len(row) for row in rows), 120)
        for name, node in self.walk(ast.FunctionDef):
            self.assertLessEqual(node.end_lineno - node.lineno + 1, 40, (name, node.name))

    def test_words_that_stand_nowhere(self):
        for path in FILES:
            text = path.read_text()
            self.assertFalse(set(re.findall(r"\w+", text)) & set(WORDS), path)
            self.assertNotRegex(text, "dataclass|overload|contextmanager")

    def test_statements_and_expressions(self):
        for name, node in self.walk(ast.AST):
            self.assertIn(type(node).__name__, NODES, (name, getattr(node, "lineno", None)))
        for name, node in self.walk(ast.Assign):
            self.assertEqual(len(node.targets), 1)
            self.assertNotIsInstance(node.targets[0], (ast.Tuple, ast.List), (name, node.lineno))
        for name, node in self.walk(ast.For, ast.While):
            self.assertEqual(node.orelse, [])
        for name, node in self.walk(ast.Try):
            self.assertEqual(node.finalbody, [])
        for name, node in self.walk(ast.ListComp):
            self.assertEqual(len(node.generators), 1)
        for name, node in self.walk(ast.Constant):
            self.assertIn(type(node.value), (int, str, bool, type(None)), (name, node.lineno))
            if isinstance(node.value, str):
                self.assertNotIn("%", node.value)

    def test_defs(self):
        for name, node in self.walk(ast.FunctionDef, ast.ClassDef):
            self.assertEqual(node.decorator_list, [])
        for name, node in self.walk(ast.arguments):
            self.assertFalse(node.vararg or node.kwarg or node.kwonlyargs or node.posonlyargs)
        for name, node in self.walk(ast.ClassDef):
            self.assertLessEqual(len(node.bases), 1)
            for part in node.body:
                self.assertIsInstance(part, (ast.FunctionDef, ast.Expr), (name, node.name))

    def test_imports(self):
        self.assertEqual(list(self.walk(ast.Import)), [])
        drawn = {}
        for name, node in self.walk(ast.ImportFrom):
            folder, module = node.module.split(".")
            self.assertEqual((folder, node.level), ("hedgemerge", 0))
            drawn.setdefault(name, []).append(module + ".py")
            source = self.trees[PACKAGE / (module + ".py")]
            bound = [part.name for part in source.body if isinstance(part, (ast.FunctionDef, ast.ClassDef))]
            bound += [part.targets[0].id for part in source.body if isinstance(part, ast.Assign)]
            used = {part.id for part in ast.walk(self.trees[PACKAGE / name]) if isinstance(part, ast.Name)}
            for alias in node.names:
                self.assertIsNone(alias.asname)
                self.assertIn(alias.name, bound)
                self.assertIn(alias.name, used, name)
        self.assertNotIn("__init__.py", drawn)
        while drawn:
            free = [name for name in drawn if not set(drawn[name]) & set(drawn)]
            self.assertTrue(free, "files draw from one another: " + ", ".join(drawn))
            for name in free:
                drawn.pop(name)

    def test_names(self):
        for path, tree in self.trees.items():
            bound = [node.id for node in ast.walk(tree) if isinstance(node, ast.Name)
                     and isinstance(node.ctx, ast.Store)]
            bound += [node.arg for node in ast.walk(tree) if isinstance(node, ast.arg)]
            imports = [node.name for node in ast.walk(tree) if isinstance(node, ast.alias)]
            defs = [node.name for node in tree.body if isinstance(node, (ast.FunctionDef, ast.ClassDef))]
            for name in bound:
                self.assertNotIn(name, dir(builtins), path)
                self.assertNotIn(name, imports + defs, path)
            every = bound + [node.name for node in ast.walk(tree) if isinstance(node, (ast.FunctionDef, ast.ClassDef))]
            every += [node.attr for node in ast.walk(tree) if isinstance(node, ast.Attribute)]
            every += [node.id for node in ast.walk(tree) if isinstance(node, ast.Name)]
            for name in every:
                self.assertTrue(is_special(name) or re.match("^[A-Za-z][A-Za-z0-9_]*$", name), (path, name))
                self.assertNotIn(name, OUT, path)
            loaded = {node.id for node in ast.walk(tree) if isinstance(node, ast.Name)}
            for name in loaded & set(dir(builtins)):
                self.assertIn(name, OWN_NAMES, path)

    def test_names_of_a_files_top_stand_once(self):
        for path, tree in self.trees.items():
            names = [node.name for node in tree.body if isinstance(node, (ast.FunctionDef, ast.ClassDef))]
            names += [node.targets[0].id for node in tree.body if isinstance(node, ast.Assign)]
            names += [node.name for node in ast.walk(tree) if isinstance(node, ast.alias)]
            self.assertEqual(len(names), len(set(names)), path)
            for node in tree.body:
                self.assertIsInstance(node, (ast.Expr, ast.ImportFrom, ast.FunctionDef, ast.ClassDef, ast.Assign))

    def test_methods_and_values(self):
        methods = {part.name for name, node in self.walk(ast.ClassDef) for part in node.body
                   if isinstance(part, ast.FunctionDef)}
        stored = {node.attr for name, node in self.walk(ast.Attribute) if isinstance(node.ctx, ast.Store)}
        self.assertEqual(methods & stored, set())
        python = set(dir(str) + dir(int) + dir(list) + dir(dict) + dir(set) + dir(bytes))
        self.assertEqual({name for name in methods | stored if name in python and not is_special(name)}, set())
        called = {node.func.attr for name, node in self.walk(ast.Call) if isinstance(node.func, ast.Attribute)}
        self.assertEqual(called - methods - set(METHODS), set())

    def test_is_stands_beside_plain_values(self):
        for name, node in self.walk(ast.Compare):
            for sign, right in zip(node.ops, node.comparators):
                if isinstance(sign, (ast.Is, ast.IsNot)):
                    self.assertIsInstance(right, ast.Constant, (name, node.lineno))
                    self.assertIn(type(right.value), (bool, type(None)))

    def test_walked_at_once(self):
        allowed = []
        for name, node in self.walk(ast.For, ast.comprehension):
            allowed.append(node.iter)
        for name, node in self.walk(ast.Call):
            if called_name(node) in ("list", "tuple", "dict", "sorted", "sum", "any", "all", "enumerate", "zip"):
                allowed.extend(node.args[:1])
            if called_name(node) in ("min", "max") and len(node.args) == 1:
                allowed.extend(node.args)
        for name, node in self.walk(ast.Call):
            if called_name(node) in LAZY:
                self.assertTrue(any(node is place for place in allowed), (name, node.lineno))

    def test_no_keywords_and_no_sets(self):
        for name, node in self.walk(ast.Call):
            self.assertEqual([word.arg for word in node.keywords], [], (name, node.lineno))
            self.assertNotIn(called_name(node), ("set", "frozenset", "print"), (name, node.lineno))
        self.assertEqual(list(self.walk(ast.Set)), [])

    def test_errors(self):
        own = {part.name for part in self.trees[PACKAGE / "errors.py"].body if isinstance(part, ast.ClassDef)}
        for name, node in self.walk(ast.ExceptHandler):
            self.assertIn(node.type.id, own, (name, node.lineno))
        for name, node in self.walk(ast.Raise):
            self.assertIn(node.exc.func.id, own, (name, node.lineno))


if __name__ == "__main__":
    unittest.main()
