"""That the package keeps to the small part of Python it is to be written in, as far as a test can see it."""

import ast
import builtins
import pathlib
import re
import unittest

PACKAGE = pathlib.Path(__file__).resolve().parent.parent / "canonways"
FILES = sorted(PACKAGE.glob("*.py"))
KINDS = """Module FunctionDef ClassDef ImportFrom alias Assign AugAssign If While For Return Break Continue Pass Raise
Expr Constant Name Load Store List Tuple Dict BinOp UnaryOp BoolOp Compare IfExp Call Attribute Subscript Slice
ListComp comprehension JoinedStr FormattedValue keyword arguments arg Add Sub Mult FloorDiv Mod BitAnd BitOr BitXor
USub Not And Or Eq NotEq Lt LtE Gt GtE Is IsNot In NotIn""".split()
PYTHONS_OWN = """len range enumerate zip min max sum abs sorted reversed int str bool list tuple dict set frozenset
isinstance ord repr any all divmod""".split()
METHODS = """append clear copy count endswith extend find get index insert items join keys pop remove replace reverse
setdefault update values""".split()
WORDS = """type typing typing_extensions enum Enum IntEnum StrEnum Flag IntFlag Generic Protocol ABC ABCMeta namedtuple
NamedTuple TypedDict TYPE_CHECKING abstractmethod register elements""".split()


def trees():
    return [(path.name, ast.parse(path.read_text(encoding="ascii"))) for path in FILES]


def nodes(*kinds):
    return [(name, node) for name, tree in trees() for node in ast.walk(tree) if isinstance(node, kinds)]


class Language(unittest.TestCase):
    def test_files(self):
        there = [path.name for path in PACKAGE.iterdir() if path.name != "__pycache__"]
        self.assertEqual(sorted(there), [path.name for path in FILES])
        self.assertIn("__init__.py", there)
        for name in there:
            self.assertRegex(name, r"\A(__init__|[a-z][a-z0-9_]*)\.py\Z")
            self.assertNotIn(name[:-3], dir(builtins))

    def test_sizes_and_signs(self):
        for path in FILES:
            rows = path.read_bytes().decode("ascii").split("\n")
            self.assertLessEqual(len(rows), 400, path.name)
            for number, row in enumerate(rows, start=1):
                with self.subTest(file=path.name, row=number):
                    self.assertRegex(row, r"\A[ -~]{0,120}\Z")
        for name, node in nodes(ast.FunctionDef):
            self.assertLessEqual(node.end_lineno - node.lineno + 1, 40, (name, node.name))

    def test_words(self):
        for path in FILES:
            found = set(re.findall(r"\w+", path.read_text(encoding="ascii")))
            self.assertEqual(found & set(WORDS), set(), path.name)

    def test_statements_and_expressions(self):
        for name, node in nodes(ast.AST):
            self.assertIn(node.__class__.__name__, KINDS, (name, getattr(node, "lineno", None)))
            if isinstance(node, ast.Constant):
                self.assertIn(node.value.__class__, (int, str, bool, None.__class__), (name, node.lineno))
            if isinstance(node, (ast.For, ast.While)):
                self.assertEqual(node.orelse, [], (name, node.lineno))
            if isinstance(node, ast.Assign):
                self.assertEqual(len(node.targets), 1, (name, node.lineno))
                self.assertNotIsInstance(node.targets[0], (ast.Tuple, ast.List), (name, node.lineno))

    def test_tops_of_files(self):
        for name, tree in trees():
            self.assertTrue(ast.get_docstring(tree), name)
            bound = []
            for node in tree.body[1:]:
                self.assertIsInstance(node, (ast.ImportFrom, ast.FunctionDef, ast.ClassDef, ast.Assign), name)
                if isinstance(node, ast.Assign):
                    ast.literal_eval(node.value)
                    bound.append(node.targets[0].id)
                elif isinstance(node, ast.ImportFrom):
                    bound += [one.name for one in node.names]
                else:
                    bound.append(node.name)
            self.assertEqual(len(bound), len(set(bound)), name)

    def test_imports(self):
        drawn = {}
        for name, node in nodes(ast.ImportFrom):
            self.assertRegex(node.module, r"\Acanonways\.[a-z]+\Z", name)
            self.assertEqual([one.asname for one in node.names if one.asname or one.name == "*"], [], name)
            drawn.setdefault(name, []).append(node.module.split(".")[1] + ".py")
        self.assertNotIn("__init__.py", drawn)
        left = [path.name for path in FILES]
        while left:
            free = [name for name in left if not set(drawn.get(name, [])) & set(left)]
            self.assertTrue(free, f"these draw from one another: {left}")
            left = [name for name in left if name not in free]

    def test_functions_and_classes(self):
        for name, node in nodes(ast.FunctionDef, ast.ClassDef):
            self.assertEqual(node.decorator_list, [], (name, node.name))
        for name, node in nodes(ast.arguments):
            self.assertEqual((node.vararg, node.kwarg, node.kwonlyargs, node.posonlyargs), (None, None, [], []), name)
        for name, node in nodes(ast.arg):
            self.assertIsNone(node.annotation, (name, node.arg))

    def test_names(self):
        own = [node.name for _, node in nodes(ast.FunctionDef, ast.ClassDef)]
        bound = own + [node.arg for _, node in nodes(ast.arg)]
        bound += [node.id for _, node in nodes(ast.Name) if isinstance(node.ctx, ast.Store)]
        for name in bound:
            self.assertTrue(name == "__init__" or re.match(r"\A[A-Za-z][A-Za-z0-9_]*\Z", name), name)
            self.assertNotIn(name, dir(builtins))
        for name, node in nodes(ast.Name):
            if hasattr(builtins, node.id):
                self.assertIn(node.id, PYTHONS_OWN, (name, node.lineno))
        for name, node in nodes(ast.Call):
            if isinstance(node.func, ast.Attribute):
                self.assertIn(node.func.attr, own + METHODS, (name, node.lineno))

    def test_values_and_methods_have_names_of_their_own(self):
        methods = {part.name for _, node in nodes(ast.ClassDef) for part in node.body if hasattr(part, "name")}
        values = {node.attr for _, node in nodes(ast.Attribute) if isinstance(node.ctx, ast.Store)}
        self.assertEqual(methods & values, set())
        pythons = {name for kind in (str, int, list, dict, set, bytes, tuple) for name in dir(kind)} - {"__init__"}
        self.assertEqual((methods | values) & pythons, set())
