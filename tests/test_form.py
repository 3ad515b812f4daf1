"""The form of the package's files, as far as a test can see it (rules L1 to L28)."""

import ast
import builtins
import os
import re
import unittest

PACKAGE = os.path.join(os.path.dirname(os.path.dirname(os.path.abspath(__file__))), "hiddenwords")

STATEMENTS = (
    ast.Assign, ast.AugAssign, ast.If, ast.While, ast.For, ast.Return, ast.Break, ast.Continue, ast.Pass, ast.Raise,
    ast.Try, ast.Expr, ast.FunctionDef, ast.ClassDef, ast.ImportFrom,
)
EXPRESSIONS = (
    ast.BoolOp, ast.BinOp, ast.UnaryOp, ast.Lambda, ast.IfExp, ast.Dict, ast.ListComp, ast.Compare, ast.Call,
    ast.JoinedStr, ast.FormattedValue, ast.Constant, ast.Attribute, ast.Subscript, ast.Name, ast.List, ast.Tuple,
    ast.Slice,
)
OPERATORS = (
    ast.Add, ast.Sub, ast.Mult, ast.FloorDiv, ast.Mod, ast.BitAnd, ast.BitOr, ast.BitXor, ast.LShift, ast.RShift,
)
BUILT_IN = set(
    "len range enumerate zip min max sum abs sorted reversed int str bool list tuple dict set frozenset isinstance "
    "ord repr any all divmod Exception ValueError KeyError IndexError LookupError ZeroDivisionError".split()
)
METHODS = set(
    "append clear copy count endswith extend find get index insert isalnum isalpha isdigit islower isspace isupper "
    "items join keys ljust lower lstrip partition pop remove replace reverse rfind rjust rpartition rsplit rstrip "
    "setdefault split splitlines startswith strip update upper values zfill bit_length".split()
)
DOUBLE = ("__init__", "__eq__", "__repr__", "__str__", "__len__")
WORDS_OUT = (
    "type typing typing_extensions enum Enum IntEnum StrEnum Flag IntFlag Generic Protocol ABC ABCMeta namedtuple "
    "NamedTuple TypedDict TYPE_CHECKING abstractmethod register mro elements open input version_info with_traceback "
    "add_note"
).split()
PYTHONS_OWN = {name for kind in (str, int, list, dict, set, bytes) for name in vars(kind)}


def files():
    return sorted(name for name in os.listdir(PACKAGE) if name != "__pycache__")


def source(name):
    with open(os.path.join(PACKAGE, name), "rb") as file:
        return file.read()


def plain(node):
    """Whether this is a plain value of a file's top."""
    if isinstance(node, ast.UnaryOp):
        return isinstance(node.op, ast.USub) and plain(node.operand)
    if isinstance(node, (ast.Tuple, ast.List)):
        return all(plain(part) for part in node.elts)
    return isinstance(node, ast.Constant)


class Form(unittest.TestCase):
    def each(self):
        for name in files():
            yield name, ast.parse(source(name))

    def nodes(self, kinds):
        for name, tree in self.each():
            for node in ast.walk(tree):
                if isinstance(node, kinds):
                    yield name, node

    def test_files(self):
        self.assertIn("__init__.py", files())
        self.assertIn("puzzle.py", files())
        for name in files():
            self.assertRegex(name, r"\A([a-z][a-z0-9_]*|__init__)\.py\Z")
            self.assertFalse(name.startswith("test"))
            self.assertNotIn(name[:-3], dir(builtins))

    def test_signs_and_size(self):
        for name in files():
            text = source(name)
            self.assertTrue(all(byte == 10 or 32 <= byte <= 126 for byte in text), name)
            rows = text.decode("ascii").split("\n")
            self.assertLessEqual(len(rows), 400)
            self.assertLessEqual(max(len(row) for row in rows), 120)
            for word in WORDS_OUT:
                self.assertIsNone(re.search(rf"\b{word}\b", text.decode("ascii")), (name, word))
            for word in ("dataclass", "overload", "contextmanager"):
                self.assertNotIn(word, text.decode("ascii"))

    def test_length_of_functions(self):
        for name, node in self.nodes(ast.FunctionDef):
            self.assertLessEqual(node.end_lineno - node.lineno + 1, 40, (name, node.name))

    def test_statements_and_expressions(self):
        for name, node in self.nodes((ast.stmt, ast.expr)):
            allowed = STATEMENTS if isinstance(node, ast.stmt) else EXPRESSIONS
            self.assertIsInstance(node, allowed, (name, node.lineno))
        for name, node in self.nodes(ast.operator):
            self.assertIsInstance(node, OPERATORS, name)

    def test_values(self):
        for name, node in self.nodes(ast.Constant):
            self.assertTrue(node.value is None or isinstance(node.value, (int, str)), (name, node.lineno))
            if isinstance(node.value, str):
                self.assertNotIn("%", node.value)

    def test_top_of_files(self):
        for name, tree in self.each():
            bound = []
            for place, node in enumerate(tree.body):
                if isinstance(node, ast.Expr):
                    self.assertEqual(place, 0)
                elif isinstance(node, ast.ImportFrom):
                    bound += [part.name for part in node.names]
                elif isinstance(node, ast.Assign):
                    self.assertTrue(plain(node.value), (name, node.lineno))
                    bound.append(node.targets[0].id)
                else:
                    self.assertIsInstance(node, (ast.FunctionDef, ast.ClassDef))
                    bound.append(node.name)
            self.assertEqual(len(bound), len(set(bound)), name)

    def test_imports(self):
        drawn = {}
        for name, node in self.nodes(ast.ImportFrom):
            self.assertEqual(node.level, 0)
            self.assertTrue(node.module.startswith("hiddenwords."), name)
            home = node.module.split(".")[1] + ".py"
            defined = [part.name for part in ast.parse(source(home)).body if hasattr(part, "name")]
            defined += [part.targets[0].id for part in ast.parse(source(home)).body if isinstance(part, ast.Assign)]
            for part in node.names:
                self.assertIn(part.name, defined)
                self.assertIsNone(part.asname)
            drawn.setdefault(name, []).append(home)
        for name in drawn:
            reached = list(drawn[name])
            for other in reached:
                reached += [more for more in drawn.get(other, []) if more not in reached]
            self.assertNotIn(name, reached)

    def test_names(self):
        for name, node in self.nodes(ast.Name):
            if node.id in dir(builtins):
                self.assertIsInstance(node.ctx, ast.Load)
                self.assertIn(node.id, BUILT_IN, (name, node.lineno))
            self.assertFalse(node.id.startswith("_"))
        for name, node in self.nodes(ast.arg):
            self.assertNotIn(node.arg, dir(builtins))
            self.assertIsNone(node.annotation)
            self.assertFalse(node.arg.startswith("_"))
        for name, node in self.nodes((ast.FunctionDef, ast.ClassDef)):
            self.assertTrue(node.name in DOUBLE or not node.name.startswith("_"))
            self.assertEqual(node.decorator_list, [])

    def test_parameters(self):
        for name, node in self.nodes(ast.arguments):
            self.assertIsNone(node.vararg)
            self.assertIsNone(node.kwarg)
            self.assertEqual(node.kwonlyargs, [])
            self.assertEqual(node.posonlyargs, [])

    def test_attributes(self):
        methods = set()
        values = set()
        for name, node in self.nodes(ast.ClassDef):
            methods |= {part.name for part in node.body if isinstance(part, ast.FunctionDef)}
            for part in ast.walk(node):
                if isinstance(part, ast.Attribute) and isinstance(part.ctx, ast.Store):
                    values.add(part.attr)
        self.assertEqual(methods & values, set())
        self.assertEqual((methods | values) & PYTHONS_OWN - set(DOUBLE), set())
        for name, node in self.nodes(ast.Attribute):
            self.assertIn(node.attr, methods | values | METHODS, (name, node.lineno))

    def test_small_rules(self):
        for name, node in self.nodes(ast.Assign):
            self.assertEqual(len(node.targets), 1)
        for name, node in self.nodes((ast.For, ast.While)):
            self.assertEqual(node.orelse, [])
        for name, node in self.nodes(ast.ListComp):
            self.assertEqual(len(node.generators), 1)
            self.assertLessEqual(len(node.generators[0].ifs), 1)
        for name, node in self.nodes(ast.Compare):
            for operator, other in zip(node.ops, node.comparators):
                if isinstance(operator, (ast.Is, ast.IsNot)):
                    self.assertIsInstance(other, ast.Constant)
        for name, node in self.nodes(ast.FormattedValue):
            self.assertIsInstance(node.value, ast.Name)
            self.assertIsNone(node.format_spec)


if __name__ == "__main__":
    unittest.main()
