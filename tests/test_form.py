"""The form of the package's code: the rules of the language that a look at its files can judge."""

import ast
import builtins
import re
import unittest
from pathlib import Path

PACKAGE = Path(__file__).resolve().parent.parent / "twigtext"

STATEMENTS = (
    ast.Assign, ast.AugAssign, ast.If, ast.While, ast.For, ast.Return, ast.Break, ast.Continue, ast.Pass, ast.Raise,
    ast.Try, ast.Expr, ast.FunctionDef, ast.ClassDef, ast.ImportFrom,
)

EXPRESSIONS = (
    ast.BoolOp, ast.BinOp, ast.UnaryOp, ast.IfExp, ast.Dict, ast.ListComp, ast.Compare, ast.Call, ast.Constant,
    ast.Attribute, ast.Subscript, ast.Name, ast.List, ast.Tuple, ast.Slice,
)

PYTHONS_OWN = """
len range enumerate zip min max sum abs sorted reversed int str bool list tuple dict set frozenset isinstance ord
repr any all divmod Exception ValueError TypeError KeyError IndexError LookupError ZeroDivisionError ArithmeticError
OverflowError RuntimeError NotImplementedError AttributeError StopIteration
""".split()

METHODS = """
append clear copy count endswith extend find get index insert isalnum isalpha isdigit islower isspace isupper items
join keys ljust lower lstrip partition pop remove replace reverse rfind rjust rpartition rsplit rstrip setdefault
split splitlines startswith strip update upper values zfill bit_length __init__
""".split()

UNUSED_NAMES = """
register mro elements open input version_info with_traceback add_note attrgetter breakpoint builtins compile delattr
dir eval exec exit gc getattr globals hasattr help id importlib locals methodcaller os quit setattr super type vars
sys chr format format_map
""".split()

UNUSED_WORDS = """
type typing typing_extensions enum Enum IntEnum StrEnum Flag IntFlag Generic Protocol ABC ABCMeta namedtuple
NamedTuple TypedDict TYPE_CHECKING abstractmethod
""".split()

TAKEN_VALUES = """
items keys values pop update append clear extend insert remove reverse setdefault sort args encode format
""".split()


def files():
    return sorted(path for path in PACKAGE.rglob("*") if "__pycache__" not in path.parts)


def trees():
    return [(path.name, ast.parse(path.read_text("ascii"))) for path in files()]


def nodes(*kinds):
    return [(name, node) for name, tree in trees() for node in ast.walk(tree) if isinstance(node, kinds)]


def is_plain(node, defined):
    """A value that may stand at a file's top."""
    if isinstance(node, ast.Constant):
        return node.value is None or isinstance(node.value, (bool, int, str))
    if isinstance(node, (ast.Tuple, ast.List)):
        return all(is_plain(part, defined) for part in node.elts)
    if isinstance(node, ast.Dict):
        return all(key is not None and is_plain(key, defined) for key in node.keys) and all(
            is_plain(part, defined) for part in node.values)
    return isinstance(node, ast.Name) and node.id in defined


class Form(unittest.TestCase):
    def where(self, name, node):
        return f"{name}, line {node.lineno}"

    def test_files(self):
        """L1, L10, L14."""
        self.assertIn("__init__.py", [path.name for path in files()])
        for path in files():
            self.assertRegex(path.name, r"^[a-z0-9_]+\.py$")
            lines = path.read_text("ascii").split("\n")
            self.assertLessEqual(len(lines), 400, path.name)
            for line in lines:
                self.assertLessEqual(len(line), 120, f"{path.name}: {line}")
                self.assertRegex(line, r"^[ -~]*$", path.name)

    def test_words_that_stand_nowhere(self):
        """L17."""
        for path in files():
            found = set(re.findall(r"\w+", path.read_text("ascii")))
            self.assertEqual(found & set(UNUSED_WORDS), set(), path.name)
            for word in found:
                self.assertNotRegex(word, "dataclass|overload|contextmanager", path.name)

    def test_imports(self):
        """L2, L16."""
        drawn = {}
        for name, tree in trees():
            drawn[name] = set()
            defined = {node.asname or node.name for part in ast.walk(tree) if isinstance(part, ast.ImportFrom)
                       for node in part.names}
            self.assertEqual(defined & locals_and_parameters(tree), set(), name)
            for node in ast.walk(tree):
                self.assertNotIsInstance(node, ast.Import, name)
                if isinstance(node, ast.ImportFrom):
                    self.assertIn(node, tree.body, name)
                    self.assertRegex(node.module, r"^twigtext\.\w+$")
                    drawn[name].add(node.module.split(".")[1] + ".py")
                    source = dict(trees())[node.module.split(".")[1] + ".py"]
                    self.assertLessEqual({part.name for part in node.names}, bound_at_top(source), name)
        while drawn:
            free = [name for name in drawn if not drawn[name] & set(drawn)]
            self.assertNotEqual(free, [], f"these draw from one another: {drawn}")
            for name in free:
                drawn.pop(name)

    def test_the_top_of_each_file(self):
        """L3, L15."""
        for name, tree in trees():
            defined = set()
            self.assertIsNotNone(ast.get_docstring(tree), name)
            for node in tree.body[1:]:
                self.assertIsInstance(node, (ast.ImportFrom, ast.FunctionDef, ast.ClassDef, ast.Assign), name)
                if isinstance(node, ast.FunctionDef):
                    defined.add(node.name)
                if isinstance(node, ast.Assign):
                    self.assertTrue(is_plain(node.value, defined), self.where(name, node))
                    self.assertFalse(holds_lists(node.value), self.where(name, node))
            bound = [part for node in tree.body for part in names_bound_by(node)]
            self.assertEqual(len(bound), len(set(bound)), name)

    def test_functions(self):
        """L4, L10, L21."""
        for name, node in nodes(ast.FunctionDef):
            where = self.where(name, node)
            self.assertLessEqual(node.end_lineno - node.lineno + 1, 40, where)
            self.assertEqual(node.decorator_list, [], where)
            arguments = node.args
            self.assertEqual((arguments.vararg, arguments.kwarg, arguments.kwonlyargs), (None, None, []), where)
            self.assertEqual(arguments.posonlyargs, [], where)
            self.assertIsNone(node.returns, where)
            self.assertTrue(all(part.annotation is None for part in arguments.args), where)

    def test_classes(self):
        """L5, L18."""
        methods, stored = set(), set()
        for name, node in nodes(ast.ClassDef):
            self.assertLessEqual(len(node.bases), 1, node.name)
            self.assertEqual((node.decorator_list, node.keywords), ([], []), node.name)
            start = 1 if ast.get_docstring(node) else 0
            self.assertTrue(all(isinstance(part, ast.FunctionDef) for part in node.body[start:]), node.name)
            own = [part.name for part in node.body[start:]]
            self.assertEqual(len(own), len(set(own)), node.name)
            methods.update(own)
        for name, node in nodes(ast.Attribute):
            if isinstance(node.ctx, ast.Store):
                stored.add(node.attr)
        self.assertEqual(methods & stored, set())
        self.assertEqual(stored & set(TAKEN_VALUES), set())

    def test_statements_and_expressions(self):
        """L6, L7."""
        for name, node in nodes(ast.stmt):
            self.assertIsInstance(node, STATEMENTS, self.where(name, node))
            if isinstance(node, ast.Assign):
                self.assertEqual(len(node.targets), 1, self.where(name, node))
                self.assertNotIsInstance(node.targets[0], (ast.Tuple, ast.List), self.where(name, node))
            if isinstance(node, (ast.For, ast.While)):
                self.assertEqual(node.orelse, [], self.where(name, node))
            if isinstance(node, ast.Try):
                self.assertEqual(node.finalbody, [], self.where(name, node))
        for name, node in nodes(ast.expr):
            self.assertIsInstance(node, EXPRESSIONS, self.where(name, node))
            if isinstance(node, ast.ListComp):
                self.assertEqual(len(node.generators), 1, self.where(name, node))
                self.assertLessEqual(len(node.generators[0].ifs), 1, self.where(name, node))
        for name, node in nodes(ast.BinOp):
            self.assertNotIsInstance(node.op, (ast.Div, ast.Pow, ast.MatMult), self.where(name, node))

    def test_names(self):
        """L8, L12, L15, L17."""
        for name, tree in trees():
            for node in ast.walk(tree):
                for word in words_of(node):
                    self.assertNotIn(word, UNUSED_NAMES, name)
                    if word != "__init__":
                        self.assertRegex(word, r"^[A-Za-z][A-Za-z0-9_]*$", name)
                if isinstance(node, ast.Name) and hasattr(builtins, node.id):
                    self.assertIn(node.id, PYTHONS_OWN, self.where(name, node))
                    self.assertIsInstance(node.ctx, ast.Load, self.where(name, node))
            for word in locals_and_parameters(tree):
                self.assertFalse(hasattr(builtins, word), f"{name}: {word}")

    def test_methods(self):
        """L25."""
        own = {part.name for name, node in nodes(ast.ClassDef) for part in node.body if isinstance(part, ast.FunctionDef)}
        for name, node in nodes(ast.Call):
            if isinstance(node.func, ast.Attribute):
                self.assertIn(node.func.attr, own | set(METHODS), self.where(name, node))
            self.assertEqual(node.keywords, [], self.where(name, node))

    def test_errors(self):
        """L19."""
        classes = {node.name for name, node in nodes(ast.ClassDef)}
        for name, node in nodes(ast.Raise):
            self.assertIsInstance(node.exc, ast.Call, self.where(name, node))
            self.assertIn(node.exc.func.id, classes, self.where(name, node))
        for name, node in nodes(ast.ExceptHandler):
            self.assertIn(node.type.id, classes, self.where(name, node))

    def test_is_stands_beside_none_true_false(self):
        """L20."""
        for name, node in nodes(ast.Compare):
            for sign, right in zip(node.ops, node.comparators):
                if isinstance(sign, (ast.Is, ast.IsNot)):
                    self.assertTrue(isinstance(right, ast.Constant) and right.value in (None, True, False), name)

    def test_texts(self):
        """L27."""
        for name, node in nodes(ast.Constant):
            if isinstance(node.value, str):
                self.assertNotIn("%", node.value, self.where(name, node))
            else:
                self.assertIsInstance(node.value, (int, bool, type(None)), self.where(name, node))


def words_of(node):
    """The names that a node brings."""
    if isinstance(node, ast.Name):
        return [node.id]
    if isinstance(node, ast.Attribute):
        return [node.attr]
    if isinstance(node, ast.arg):
        return [node.arg]
    if isinstance(node, (ast.FunctionDef, ast.ClassDef)):
        return [node.name]
    return []


def names_bound_by(node):
    if isinstance(node, (ast.FunctionDef, ast.ClassDef)):
        return [node.name]
    if isinstance(node, ast.ImportFrom):
        return [part.name for part in node.names]
    if isinstance(node, ast.Assign):
        return [part.id for part in node.targets]
    return []


def bound_at_top(tree):
    return {word for node in tree.body if not isinstance(node, ast.ImportFrom) for word in names_bound_by(node)}


def locals_and_parameters(tree):
    """What is bound within the functions of a file."""
    found = set()
    for function in ast.walk(tree):
        if isinstance(function, ast.FunctionDef):
            for node in ast.walk(function):
                if isinstance(node, ast.arg):
                    found.add(node.arg)
                if isinstance(node, ast.Name) and isinstance(node.ctx, ast.Store):
                    found.add(node.id)
    return found


def holds_lists(node):
    """Whether a list or dict stands within another value."""
    return any(isinstance(part, (ast.List, ast.Dict)) for part in list(ast.walk(node))[1:])
