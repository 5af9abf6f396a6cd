"""The package's files keep to the part of Python that is told for them (what a walk over the code can see)."""

import ast
import builtins
import keyword
import pathlib
import re
import unittest

import thingssaid

FOLDER = pathlib.Path(thingssaid.__file__).parent
FILES = sorted(path for path in FOLDER.rglob("*") if "__pycache__" not in path.parts)
TREES = [ast.parse(path.read_text(encoding="utf-8"), path.name) for path in FILES if path.suffix == ".py"]

NODES = (
    ast.Module, ast.FunctionDef, ast.ClassDef, ast.ImportFrom, ast.alias, ast.arguments, ast.arg, ast.Lambda,
    ast.Assign, ast.AugAssign, ast.If, ast.While, ast.For, ast.Return, ast.Break, ast.Continue, ast.Pass, ast.Raise,
    ast.Try, ast.ExceptHandler, ast.Expr, ast.Constant, ast.List, ast.Tuple, ast.Dict, ast.BinOp, ast.UnaryOp,
    ast.BoolOp, ast.Compare, ast.IfExp, ast.Call, ast.keyword, ast.Attribute, ast.Subscript, ast.Slice, ast.ListComp,
    ast.comprehension, ast.JoinedStr, ast.FormattedValue, ast.Name, ast.expr_context, ast.operator, ast.unaryop,
    ast.boolop, ast.cmpop,
)

BUILTINS = set(
    "len range enumerate zip min max sum abs sorted reversed int str bool list tuple dict set frozenset isinstance "
    "ord repr any all divmod Exception ValueError TypeError KeyError IndexError LookupError ZeroDivisionError "
    "ArithmeticError OverflowError RuntimeError NotImplementedError AttributeError StopIteration".split())

METHODS = set(
    "append clear copy count endswith extend find get index insert isalnum isalpha isdigit islower isspace isupper "
    "items join keys ljust lower lstrip partition pop remove replace reverse rfind rjust rpartition rsplit rstrip "
    "setdefault split splitlines startswith strip update upper values zfill bit_length".split())

OWN_OF_PYTHON = {name for kind in (str, int, list, dict, set, tuple, bytes) for name in dir(kind)}

DUNDERS = {"__init__", "__eq__", "__repr__", "__str__", "__len__", "__all__", "__version__"}

WORDS = re.compile(
    r"\b(type|typing|typing_extensions|enum|Enum|IntEnum|StrEnum|Flag|IntFlag|Generic|Protocol|ABC|ABCMeta|namedtuple"
    r"|NamedTuple|TypedDict|TYPE_CHECKING|abstractmethod)\b|dataclass|overload|contextmanager")

NOT_NAMES = set(
    "register mro elements open input version_info with_traceback add_note format format_map attrgetter breakpoint "
    "builtins compile copyright credits delattr dir eval exec exit gc getattr globals hasattr help id importlib "
    "license locals methodcaller os quit setattr super vars sys chr print".split())


def plain(node):
    """Whether a value at a file's top is plain."""
    if isinstance(node, ast.UnaryOp):
        return isinstance(node.op, ast.USub) and isinstance(node.operand, ast.Constant)
    if isinstance(node, (ast.Tuple, ast.List)):
        return all(plain(part) for part in node.elts)
    return isinstance(node, ast.Constant) and not isinstance(node.value, (float, bytes))


def bound_names(tree):
    for node in ast.walk(tree):
        if isinstance(node, ast.Name) and isinstance(node.ctx, ast.Store):
            yield node.id
        elif isinstance(node, ast.arg):
            yield node.arg
        elif isinstance(node, (ast.FunctionDef, ast.ClassDef)):
            yield node.name


def imports(tree):
    """Each name that a file draws from another one, and from which."""
    return {alias.name: node.module.split(".")[-1] for node in tree.body if isinstance(node, ast.ImportFrom)
            for alias in node.names}


def defined_at_top(tree):
    return [node.targets[0].id if isinstance(node, ast.Assign) else node.name for node in tree.body
            if isinstance(node, (ast.Assign, ast.FunctionDef, ast.ClassDef))]


class Language(unittest.TestCase):
    def test_files(self):
        self.assertIn("__init__.py", [path.name for path in FILES])
        for path in FILES:
            with self.subTest(file=path.name):
                self.assertRegex(path.name, r"^(__init__|[a-z][a-z0-9_]*)\.py$")
                self.assertFalse(path.stem in vars(builtins))
                text = path.read_text(encoding="ascii")
                self.assertRegex(text, r"\A[ -~\n]*\Z")
                self.assertIsNone(WORDS.search(text))
                rows = text.split("\n")
                self.assertLessEqual(len(rows), 400)
                self.assertLessEqual(max(len(row) for row in rows), 120)

    def test_only_the_nodes_of_the_language(self):
        for tree in TREES:
            for node in ast.walk(tree):
                self.assertIsInstance(node, NODES)
                self.assertNotIsInstance(node, (ast.Div, ast.MatMult))
                if isinstance(node, (ast.For, ast.While)):
                    self.assertEqual(node.orelse, [])
                if isinstance(node, ast.Try):
                    self.assertEqual(node.finalbody, [])
                if isinstance(node, ast.Assign):
                    self.assertEqual(len(node.targets), 1)
                if isinstance(node, ast.ListComp):
                    self.assertEqual(len(node.generators), 1)
                    self.assertLessEqual(len(node.generators[0].ifs), 1)
                if isinstance(node, ast.Constant):
                    self.assertNotIsInstance(node.value, (float, complex, bytes))
                if isinstance(node, ast.Constant) and isinstance(node.value, str):
                    self.assertNotIn("%", node.value)

    def test_the_top_of_each_file(self):
        for tree in TREES:
            self.assertIsNotNone(ast.get_docstring(tree))
            for node in tree.body[1:]:
                self.assertIsInstance(node, (ast.ImportFrom, ast.FunctionDef, ast.ClassDef, ast.Assign))
                if isinstance(node, ast.Assign):
                    self.assertIsInstance(node.targets[0], ast.Name)
                    self.assertTrue(plain(node.value), ast.dump(node))
            inside = [node for node in ast.walk(tree) if isinstance(node, ast.ImportFrom)]
            for node in inside:
                self.assertIn(node, tree.body)
                self.assertEqual(node.level, 0)
                self.assertRegex(node.module, r"^thingssaid\.[a-z_]+$")
                self.assertTrue(all(alias.name != "*" and alias.asname is None for alias in node.names))

    def test_functions_and_classes(self):
        for tree in TREES:
            for node in ast.walk(tree):
                if isinstance(node, (ast.FunctionDef, ast.ClassDef)):
                    self.assertEqual(node.decorator_list, [])
                if isinstance(node, ast.FunctionDef):
                    self.assertLessEqual(node.end_lineno - node.lineno + 1, 40, node.name)
                    given = node.args
                    self.assertEqual((given.vararg, given.kwarg, given.kwonlyargs, given.posonlyargs),
                                     (None, None, [], []))
                if isinstance(node, ast.ClassDef):
                    self.assertTrue(all(isinstance(part, ast.FunctionDef) for part in node.body[1:]))
                    self.assertIsNotNone(ast.get_docstring(node))

    def test_names(self):
        for tree in TREES:
            names = list(bound_names(tree))
            for name in names:
                self.assertTrue(name in DUNDERS or re.match(r"^[A-Za-z][A-Za-z0-9_]*$", name), name)
                self.assertFalse(name in vars(builtins) or keyword.iskeyword(name), name)
                self.assertNotIn(name, NOT_NAMES)
            for node in ast.walk(tree):
                if isinstance(node, ast.Name) and node.id in vars(builtins):
                    self.assertIn(node.id, BUILTINS)
                if isinstance(node, ast.Attribute):
                    self.assertFalse(node.attr.startswith("_") and node.attr not in DUNDERS, node.attr)
                    self.assertNotIn(node.attr, NOT_NAMES)
                    if node.attr in OWN_OF_PYTHON:
                        self.assertIn(node.attr, METHODS)

    def test_each_name_once_at_the_top_and_none_hidden_within(self):
        for tree in TREES:
            top = defined_at_top(tree) + list(imports(tree))
            self.assertEqual(len(set(top)), len(top))
            taken = set(imports(tree)) | {node.name for node in tree.body if isinstance(node, ast.ClassDef)}
            for node in ast.walk(tree):
                if isinstance(node, ast.FunctionDef):
                    inner = {part.arg for part in ast.walk(node) if isinstance(part, ast.arg)} | {
                        part.id for part in ast.walk(node)
                        if isinstance(part, ast.Name) and isinstance(part.ctx, ast.Store)}
                    self.assertEqual(inner & taken, set(), node.name)
                    self.assertEqual(inner & set(top), set(), node.name)

    def test_what_is_imported_is_defined_there_and_used_and_in_no_ring(self):
        trees = {path.stem: ast.parse(path.read_text(encoding="ascii")) for path in FILES}
        done = []
        while len(done) < len(trees):
            free = [stem for stem in trees if stem not in done and set(imports(trees[stem]).values()) <= set(done)]
            self.assertNotEqual(free, [], "files that draw from one another")
            done += free
        for tree in trees.values():
            used = {node.id for node in ast.walk(tree) if isinstance(node, ast.Name)}
            for name, stem in imports(tree).items():
                self.assertIn(name, defined_at_top(trees[stem]))
                self.assertIn(name, used)

    def test_no_name_is_a_method_and_a_value(self):
        methods, kept = set(), set()
        for tree in TREES:
            for node in ast.walk(tree):
                if isinstance(node, ast.ClassDef):
                    own = [part.name for part in node.body if isinstance(part, ast.FunctionDef)]
                    self.assertEqual(len(set(own)), len(own))
                    methods.update(own)
                if isinstance(node, ast.Attribute) and isinstance(node.ctx, ast.Store):
                    kept.add(node.attr)
        self.assertEqual(methods & kept, set())

    def test_no_power_of_what_is_not_written_out(self):
        for tree in TREES:
            for node in ast.walk(tree):
                if isinstance(node, ast.BinOp) and isinstance(node.op, ast.Pow):
                    self.assertIsInstance(node.right, ast.Constant)

    def test_walked_at_once(self):
        for tree in TREES:
            for node in ast.walk(tree):
                if isinstance(node, ast.Assign) and isinstance(node.value, ast.Call):
                    called = node.value.func
                    name = called.id if isinstance(called, ast.Name) else called.attr
                    self.assertNotIn(name, ("zip", "enumerate", "reversed", "range", "items", "keys", "values", "set"))

    def test_is_stands_beside_none_true_and_false_alone(self):
        for tree in TREES:
            for node in ast.walk(tree):
                if isinstance(node, ast.Compare) and isinstance(node.ops[0], (ast.Is, ast.IsNot)):
                    self.assertIsInstance(node.comparators[0], ast.Constant)


if __name__ == "__main__":
    unittest.main()
