"""The package keeps to the rules of LANGUAGE.md that can be seen in a tree of its code."""

import ast
import builtins
import os
import re
import unittest

FOLDER = os.path.join(os.path.dirname(os.path.abspath(__file__)), "..", "gainroads")
OWN_NAMES = set("""len range enumerate zip min max sum abs sorted reversed int str bool bytes list tuple dict set
    frozenset isinstance ord repr any all divmod Exception ValueError TypeError KeyError IndexError LookupError
    ZeroDivisionError ArithmeticError OverflowError RuntimeError NotImplementedError AttributeError
    StopIteration""".split())
METHODS = set("""append clear copy count endswith extend find get index insert isalnum isalpha isdigit islower isspace
    isupper items join keys ljust lower lstrip partition pop remove replace reverse rfind rjust rpartition rsplit
    rstrip setdefault split splitlines startswith strip update upper values zfill bit_length sort add
    discard""".split())
WORDS = """type typing typing_extensions enum Enum IntEnum StrEnum Flag IntFlag Generic Protocol ABC ABCMeta namedtuple
    NamedTuple TypedDict TYPE_CHECKING abstractmethod""".split()
NODES = set("""Module Expr Constant ImportFrom alias FunctionDef arguments arg ClassDef Assign AugAssign If While For
    Return Break Continue Pass Raise Try ExceptHandler Assert Delete Call keyword Attribute Subscript Slice Name Load
    Store Del List Tuple Dict Set ListComp DictComp SetComp comprehension JoinedStr FormattedValue Lambda IfExp BoolOp
    And Or BinOp Add Sub Mult FloorDiv Mod Pow LShift RShift BitAnd BitOr BitXor UnaryOp Not USub Invert Compare Eq
    NotEq Lt LtE Gt GtE Is IsNot In NotIn Starred""".split())
TOP = (ast.Expr, ast.ImportFrom, ast.FunctionDef, ast.ClassDef, ast.Assign)


def sources():
    told = {}
    for name in sorted(os.listdir(FOLDER)):
        if name != "__pycache__":
            with open(os.path.join(FOLDER, name), "rb") as file:
                told[name] = file.read().decode("ascii")
    return told


class Language(unittest.TestCase):

    def setUp(self):
        self.texts = sources()
        self.trees = {name: ast.parse(text) for name, text in self.texts.items()}

    def nodes(self, *kinds):
        for name, tree in self.trees.items():
            for node in ast.walk(tree):
                if not kinds or isinstance(node, kinds):
                    yield name, node

    def test_files(self):
        self.assertIn("__init__.py", self.texts)
        for name, text in self.texts.items():
            self.assertRegex(name, r"\A(__init__|[a-z][a-z0-9_]*)\.py\Z")
            self.assertLessEqual(len(text.split("\n")), 400, name)
            for row in text.split("\n"):
                self.assertRegex(row, r"\A[ -~]{0,120}\Z", name)

    def test_words(self):
        for name, text in self.texts.items():
            for word in WORDS:
                self.assertIsNone(re.search(rf"\b{word}\b", text), (name, word))
            self.assertIsNone(re.search("dataclass|overload|contextmanager", text), name)

    def test_nodes(self):
        for name, node in self.nodes():
            self.assertIn(type(node).__name__, NODES, (name, getattr(node, "lineno", 0)))
            if isinstance(node, ast.Constant):
                self.assertIn(type(node.value), (int, str, bytes, bool, type(None)), name)
                self.assertNotIn("%", str(node.value), name)
            if isinstance(node, (ast.FunctionDef, ast.ClassDef)):
                self.assertEqual(node.decorator_list, [])

    def test_tops(self):
        for name, tree in self.trees.items():
            for row in tree.body:
                self.assertIsInstance(row, TOP, name)

    def test_defs(self):
        for name, node in self.nodes(ast.FunctionDef):
            self.assertLessEqual(node.end_lineno - node.lineno + 1, 40, (name, node.name))
            self.assertIsNone(node.args.vararg or node.args.kwarg)
            self.assertEqual(node.args.posonlyargs, [])

    def test_imports(self):
        drawn = {name: [] for name in self.trees}
        for name, node in self.nodes(ast.ImportFrom):
            package, _, file = node.module.partition(".")
            self.assertEqual((package, node.level), ("gainroads", 0), name)
            tops = self.trees[file + ".py"].body
            defined = [row.name for row in tops if hasattr(row, "name")]
            defined += [row.targets[0].id for row in tops if isinstance(row, ast.Assign)]
            for alias in node.names:
                self.assertIn(alias.name, defined, name)
                self.assertIsNone(alias.asname, name)
            drawn[name].append(file + ".py")
        while drawn:
            free = [name for name in drawn if not any(other in drawn for other in drawn[name])]
            self.assertNotEqual(free, [], drawn)
            for name in free:
                del drawn[name]

    def test_every_import_is_used(self):
        for name, tree in self.trees.items():
            used = [node.id for node in ast.walk(tree) if isinstance(node, ast.Name)]
            for node in ast.walk(tree):
                if isinstance(node, ast.ImportFrom):
                    for alias in node.names:
                        self.assertIn(alias.name, used, name)

    def test_names(self):
        for name, tree in self.trees.items():
            drawn = [alias.name for row in tree.body if isinstance(row, ast.ImportFrom) for alias in row.names]
            classes = [row.name for row in tree.body if isinstance(row, ast.ClassDef)]
            for node in ast.walk(tree):
                given = []
                if isinstance(node, ast.Name) and isinstance(node.ctx, ast.Store):
                    given = [node.id]
                if isinstance(node, ast.arg):
                    given = [node.arg]
                for word in given:
                    self.assertRegex(word, r"\A[A-Za-z][A-Za-z0-9_]*\Z", name)
                    self.assertFalse(hasattr(builtins, word), (name, word))
                    self.assertNotIn(word, drawn + classes, name)
                if isinstance(node, ast.Name) and hasattr(builtins, node.id):
                    self.assertIn(node.id, OWN_NAMES, name)

    def test_attributes(self):
        own = {node.name for name, node in self.nodes(ast.FunctionDef)}
        given = {node.attr for name, node in self.nodes(ast.Attribute) if isinstance(node.ctx, ast.Store)}
        for name, node in self.nodes(ast.Attribute):
            self.assertIn(node.attr, METHODS | own | given | {"__init__"}, name)

    def test_methods_and_values(self):
        methods = {part.name for name, node in self.nodes(ast.ClassDef) for part in node.body
                   if isinstance(part, ast.FunctionDef)}
        given = {node.attr for name, node in self.nodes(ast.Attribute) if isinstance(node.ctx, ast.Store)}
        self.assertEqual(methods & given, set())
        pythons = {word for kind in (str, int, list, tuple, dict, set, bytes) for word in dir(kind)}
        for word in (methods | given) - {"__init__"}:
            self.assertNotIn(word, pythons)

    def test_walked_at_once(self):
        for name, node in self.nodes(ast.Assign):
            call = node.value
            if isinstance(call, ast.Call) and isinstance(call.func, ast.Name):
                self.assertNotIn(call.func.id, ("range", "zip", "enumerate", "reversed"), (name, node.lineno))
            if isinstance(call, ast.Call) and isinstance(call.func, ast.Attribute):
                self.assertNotIn(call.func.attr, ("items", "keys", "values"), (name, node.lineno))

    def test_tops_are_bound_once(self):
        for name, tree in self.trees.items():
            bound = []
            for row in tree.body:
                if isinstance(row, ast.ImportFrom):
                    bound += [alias.name for alias in row.names]
                elif isinstance(row, ast.Assign):
                    bound += [target.id for target in row.targets]
                elif not isinstance(row, ast.Expr):
                    bound.append(row.name)
            self.assertEqual(len(set(bound)), len(bound), name)

    def test_is(self):
        for name, node in self.nodes(ast.Compare):
            for sign, side in zip(node.ops, node.comparators):
                if isinstance(sign, (ast.Is, ast.IsNot)):
                    self.assertIsInstance(side, ast.Constant, name)

    def test_sets_stand_within_len_and_sorted(self):
        for name, tree in self.trees.items():
            within = [id(part) for node in ast.walk(tree) if isinstance(node, ast.Call)
                      and isinstance(node.func, ast.Name) and node.func.id in ("len", "sorted") for part in node.args]
            for node in ast.walk(tree):
                if isinstance(node, ast.Call) and isinstance(node.func, ast.Name) and node.func.id == "set":
                    self.assertIn(id(node), within, (name, node.lineno))


if __name__ == "__main__":
    unittest.main()
