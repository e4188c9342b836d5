"""The form of the package's code: those rules of LANGUAGE.md that a walk over the files can see."""
import ast
import builtins
import re
import unittest
from pathlib import Path

PACKAGE = "scenetongue"
FOLDER = Path(__file__).resolve().parent.parent / PACKAGE
FILES = sorted(path for path in FOLDER.rglob("*") if path.is_file() and "__pycache__" not in path.parts)
TREES = {path.stem: ast.parse(path.read_text(encoding="utf-8")) for path in FILES if path.suffix == ".py"}

BUILTINS = set(
    "len range enumerate zip min max sum abs sorted reversed int str bool bytes list tuple dict set frozenset "
    "isinstance ord repr any all divmod iter next super property staticmethod classmethod object float "
    "Exception ValueError TypeError KeyError IndexError LookupError ZeroDivisionError ArithmeticError "
    "OverflowError RuntimeError NotImplementedError AttributeError StopIteration NotImplemented".split()
)
WORDS = re.compile(
    r"\b(type|typing|typing_extensions|enum|Enum|IntEnum|StrEnum|Flag|IntFlag|Generic|Protocol|ABC|ABCMeta"
    r"|namedtuple|NamedTuple|TypedDict|TYPE_CHECKING|abstractmethod)\b|dataclass|overload|contextmanager"
)
METHODS = set(
    "append clear copy count endswith extend find get index insert isalnum isalpha isdigit islower isspace isupper "
    "items join keys ljust lower lstrip partition pop remove replace reverse rfind rjust rpartition rsplit rstrip "
    "setdefault split splitlines startswith strip update upper values zfill bit_length removeprefix removesuffix".split()
)
BARRED = (ast.Global, ast.AsyncFunctionDef, ast.AsyncFor, ast.AsyncWith, ast.Await, ast.Div, ast.Import)
MODULE_LEVEL = (ast.Expr, ast.ImportFrom, ast.FunctionDef, ast.ClassDef, ast.Assign, ast.AnnAssign)


def nodes():
    for name, tree in TREES.items():
        for node in ast.walk(tree):
            yield name, node


def bound_names(tree):
    """Each name that the tree binds: by a def, a class, an argument, an import or an assignment."""
    for node in ast.walk(tree):
        if isinstance(node, (ast.FunctionDef, ast.ClassDef)):
            yield node.name
        elif isinstance(node, ast.arg):
            yield node.arg
        elif isinstance(node, ast.alias):
            yield node.asname or node.name
        elif isinstance(node, ast.Name) and not isinstance(node.ctx, ast.Load):
            yield node.id
        elif isinstance(node, ast.Attribute) and not isinstance(node.ctx, ast.Load):
            yield node.attr


def defined_at_the_top(tree):
    for node in tree.body:
        if isinstance(node, (ast.FunctionDef, ast.ClassDef)):
            yield node.name
        elif isinstance(node, ast.Assign):
            yield from (target.id for target in node.targets)
        elif isinstance(node, ast.AnnAssign):
            yield node.target.id


def imports_of(tree):
    return [node for node in ast.walk(tree) if isinstance(node, ast.ImportFrom) and node.module != "__future__"]


class Form(unittest.TestCase):
    def test_the_folder_holds_plain_files_alone(self):
        self.assertIn("__init__", TREES)
        for path in FILES:
            self.assertRegex(path.name, r"^[a-z0-9_]+\.py$")

    def test_signs_and_sizes(self):
        for path in FILES:
            text = path.read_text(encoding="utf-8")
            lines = text.split("\n")
            self.assertRegex(text, r"\A[ -~\n]*\Z", path.name)
            self.assertLessEqual(len(lines) - 1, 399, path.name)
            self.assertLessEqual(max(map(len, lines)), 120, path.name)
            self.assertIsNone(WORDS.search(text), path.name)
        for name, node in nodes():
            if isinstance(node, ast.FunctionDef):
                self.assertLessEqual(node.end_lineno - node.lineno + 1, 40, (name, node.name))

    def test_barred_nodes(self):
        for name, node in nodes():
            self.assertNotIsInstance(node, BARRED, name)
            if isinstance(node, ast.Constant):
                self.assertNotIsInstance(node.value, (float, complex), name)
        for name, tree in TREES.items():
            for node in tree.body:
                self.assertIsInstance(node, MODULE_LEVEL, name)

    def test_imports_name_the_file_that_defines(self):
        for name, tree in TREES.items():
            for node in imports_of(tree):
                package, dot, file = node.module.partition(".")
                self.assertEqual((node.level, package, dot), (0, PACKAGE, "."), name)
                for alias in node.names:
                    self.assertIn(alias.name, list(defined_at_the_top(TREES[file])), name)

    def test_no_two_files_import_from_each_other(self):
        left = {name: {node.module.partition(".")[2] for node in imports_of(tree)} for name, tree in TREES.items()}
        while left:
            free = [name for name, wanted in left.items() if not wanted & set(left)]
            self.assertTrue(free, sorted(left))
            for name in free:
                del left[name]

    def test_names(self):
        for name, tree in TREES.items():
            for bound in bound_names(tree):
                if not re.fullmatch(r"__[a-z]+__", bound):
                    self.assertRegex(bound, r"^[A-Za-z][A-Za-z0-9_]*$", name)
            top = list(defined_at_the_top(tree))
            self.assertEqual(len(top), len(set(top)), name)

    def test_builtins(self):
        every = set(dir(builtins))
        for name, node in nodes():
            if isinstance(node, ast.Name) and node.id in every:
                self.assertIn(node.id, BUILTINS, name)
                self.assertIsInstance(node.ctx, ast.Load, (name, node.id))
        for name, tree in TREES.items():
            for bound in plain_names(tree):
                self.assertNotIn(bound, every, name)

    def test_no_name_of_an_import_or_a_class_is_bound_again(self):
        for name, tree in TREES.items():
            taken = {alias.name for node in imports_of(tree) for alias in node.names}
            taken |= {node.name for node in tree.body if isinstance(node, ast.ClassDef)}
            for function in ast.walk(tree):
                if isinstance(function, ast.FunctionDef):
                    self.assertFalse(taken & set(local_names(function)), (name, function.name))

    def test_methods_and_attributes(self):
        methods, attributes = set(), set()
        for name, node in nodes():
            if isinstance(node, ast.ClassDef):
                methods |= {row.name for row in node.body if isinstance(row, ast.FunctionDef)}
            if isinstance(node, ast.Attribute) and isinstance(node.ctx, ast.Store):
                attributes.add(node.attr)
        self.assertFalse(methods & attributes)
        taken = {word for kind in (str, int, list, dict, set, bytes, tuple) for word in dir(kind)}
        self.assertFalse({word for word in methods | attributes if not word.startswith("__")} & taken)
        for name, node in nodes():
            if isinstance(node, ast.Attribute) and not node.attr.startswith("__"):
                self.assertIn(node.attr, methods | attributes | METHODS, name)

    def test_signs(self):
        for name, node in nodes():
            if isinstance(node, ast.Constant) and isinstance(node.value, str):
                self.assertNotIn("%", node.value, name)
            if isinstance(node, ast.BinOp) and isinstance(node.op, ast.Pow):
                self.assertIsInstance(node.right, ast.Constant, name)
            if isinstance(node, ast.Compare):
                for sign, other in zip(node.ops, node.comparators):
                    if isinstance(sign, (ast.Is, ast.IsNot)):
                        self.assertIsInstance(other, ast.Constant, name)
                        self.assertIn(repr(other.value), ("None", "True", "False"), name)
            # Lists stand in any, all and the like, as they must once a class has an __eq__.
            self.assertNotIsInstance(node, (ast.GeneratorExp, ast.Set, ast.SetComp, ast.NamedExpr), name)

    def test_what_stands_at_module_level_is_written_out(self):
        for name, tree in TREES.items():
            for node in tree.body:
                if isinstance(node, ast.Assign):
                    ast.literal_eval(node.value)


def local_names(function):
    """Each parameter and local variable of a function, those of what is nested in it, too."""
    for node in ast.walk(function):
        if isinstance(node, ast.arg):
            yield node.arg
        elif isinstance(node, ast.Name) and not isinstance(node.ctx, ast.Load):
            yield node.id
        elif isinstance(node, ast.FunctionDef) and node != function:
            yield node.name


def plain_names(tree):
    """Each name that the tree binds, but for attributes and methods."""
    for node in tree.body:
        if isinstance(node, (ast.FunctionDef, ast.ClassDef)):
            yield node.name
        elif isinstance(node, ast.Assign):
            yield from (target.id for target in node.targets)
    for node in ast.walk(tree):
        if isinstance(node, ast.FunctionDef):
            yield from local_names(node)


if __name__ == "__main__":
    unittest.main()
