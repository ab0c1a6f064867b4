"""The package's files held against LANGUAGE.md, as far as a walk over them can see."""
import ast
import builtins
import importlib
import pathlib
import re
import tokenize
import unittest

PACKAGE = pathlib.Path(__file__).resolve().parent.parent / "roomsay"
FILES = sorted(PACKAGE.rglob("*.py"))

NODES = set(
    """Module Expr FunctionDef ClassDef arguments arg Return Assign AugAssign If While For Break Continue Pass
    Raise Try ExceptHandler ImportFrom alias Name Load Store Constant Tuple List Dict Attribute Subscript Slice
    Call keyword Lambda ListComp comprehension IfExp JoinedStr FormattedValue Compare BoolOp UnaryOp BinOp
    And Or Not USub UAdd Invert Add Sub Mult FloorDiv Mod Pow BitAnd BitOr BitXor LShift RShift
    Eq NotEq Lt LtE Gt GtE Is IsNot In NotIn Set""".split()
)
TOP = (ast.ImportFrom, ast.FunctionDef, ast.ClassDef, ast.Assign)
OWN_NAMES = set(
    """len range enumerate zip min max sum abs sorted reversed int str bool list tuple dict set frozenset
    isinstance ord repr any all divmod Exception ValueError TypeError KeyError IndexError LookupError
    ZeroDivisionError ArithmeticError OverflowError RuntimeError NotImplementedError AttributeError
    StopIteration""".split()
)
METHODS = set(
    """append clear copy count endswith extend find get index insert isalnum isalpha isdigit islower isspace
    isupper items join keys ljust lower lstrip partition pop remove replace reverse rfind rjust rpartition rsplit
    rstrip setdefault split splitlines startswith strip update upper values zfill bit_length""".split()
)
WORDS = set(
    """type typing typing_extensions enum Enum IntEnum StrEnum Flag IntFlag Generic Protocol ABC ABCMeta
    namedtuple NamedTuple TypedDict TYPE_CHECKING abstractmethod""".split()
)
WALKED_AT_ONCE = ("zip", "enumerate", "reversed", "range", "items", "keys", "values")
KEYWORDS = [("sorted", "key"), ("min", "key"), ("max", "key"), ("min", "default"), ("max", "default")]
PARTS_OF_WORDS = ("dataclass", "overload", "contextmanager")


def tree_of(path):
    return ast.parse(path.read_text("utf-8"))


def is_docstring(node):
    return isinstance(node, ast.Expr) and isinstance(node.value, ast.Constant) and isinstance(node.value.value, str)


def called(call):
    return call.func.id if isinstance(call.func, ast.Name) else call.func.attr


def own_methods():
    classes = [node for path in FILES for node in tree_of(path).body if isinstance(node, ast.ClassDef)]
    methods = {part.name for node in classes for part in node.body if isinstance(part, ast.FunctionDef)}
    return methods - {"__init__"}


def drawn_from(path):
    return [node.module for node in ast.walk(tree_of(path)) if isinstance(node, ast.ImportFrom)]


def path_of(module):
    return PACKAGE.parent / (module.replace(".", "/") + ".py")


class Language(unittest.TestCase):
    def each_node(self):
        for path in FILES:
            for node in ast.walk(tree_of(path)):
                yield node, f"{path.name}:{getattr(node, 'lineno', 1)}"

    def test_files(self):
        self.assertTrue((PACKAGE / "__init__.py").is_file())
        for path in PACKAGE.iterdir():
            if path.name != "__pycache__":
                self.assertRegex(path.name, r"^(__init__|__main__|[a-z][a-z0-9_]*)\.py$")

    def test_signs_and_sizes(self):
        for path in FILES:
            text = path.read_bytes().decode("ascii")
            self.assertRegex(text, r"\A[ -~\n]*\Z", path)
            self.assertLessEqual(text.count("\n"), 400, path)
            for line in text.split("\n"):
                self.assertLessEqual(len(line), 120, path)

    def test_words_that_stand_nowhere(self):
        for path in FILES:
            text = path.read_text("utf-8")
            self.assertEqual(WORDS & set(re.findall(r"\w+", text)), set(), path)
            for part in PARTS_OF_WORDS:
                self.assertNotIn(part, text, path)

    def test_only_the_forms_that_are_told(self):
        for node, where in self.each_node():
            self.assertIn(type(node).__name__, NODES, where)
            if isinstance(node, (ast.For, ast.While)):
                self.assertEqual(node.orelse, [], where)
            if isinstance(node, ast.Assign):
                self.assertEqual(len(node.targets), 1, where)
            if isinstance(node, ast.ListComp):
                self.assertEqual(len(node.generators), 1, where)
                self.assertLessEqual(len(node.generators[0].ifs), 1, where)
            if isinstance(node, ast.Constant):
                self.assertIsInstance(node.value, (int, str, type(None)), where)
            if isinstance(node, ast.Try):
                self.assertEqual(node.finalbody, [], where)

    def test_functions_and_classes(self):
        for node, where in self.each_node():
            if isinstance(node, (ast.FunctionDef, ast.ClassDef)):
                self.assertEqual(node.decorator_list, [], where)
            if isinstance(node, ast.FunctionDef):
                self.assertLessEqual(node.end_lineno - node.lineno + 1, 40, where)
            if isinstance(node, ast.arguments):
                self.assertEqual((node.vararg, node.kwarg, node.kwonlyargs, node.posonlyargs), (None, None, [], []))
            if isinstance(node, ast.ClassDef):
                self.assertLessEqual(len(node.bases), 1, where)
                for part in node.body:
                    self.assertTrue(isinstance(part, (ast.FunctionDef, ast.Pass)) or is_docstring(part), where)

    def test_the_top_of_a_module(self):
        for path in FILES:
            for node in tree_of(path).body:
                self.assertTrue(isinstance(node, TOP) or is_docstring(node), path)

    def test_names(self):
        pythons = set(dir(builtins))
        for node, where in self.each_node():
            if isinstance(node, ast.Name):
                self.assertRegex(node.id, r"^[A-Za-z][A-Za-z0-9_]*$", where)
                if node.id in pythons:
                    self.assertIn(node.id, OWN_NAMES, where)
                    self.assertIsInstance(node.ctx, ast.Load, where)
            if isinstance(node, ast.arg):
                self.assertNotIn(node.arg, pythons, where)
                self.assertRegex(node.arg, r"^[A-Za-z][A-Za-z0-9_]*$", where)
            if isinstance(node, ast.Call) and isinstance(node.func, ast.Attribute):
                self.assertIn(node.func.attr, METHODS | own_methods(), where)

    def test_own_methods_and_values(self):
        pythons = {name for kind in (str, int, list, tuple, dict, set, frozenset, bytes) for name in dir(kind)}
        values = set()
        for node, where in self.each_node():
            if isinstance(node, ast.Attribute) and isinstance(node.ctx, ast.Store):
                self.assertIsInstance(node.value, ast.Name, where)
                self.assertEqual(node.value.id, "self", where)
                values.add(node.attr)
        self.assertEqual(values & own_methods(), set())
        self.assertEqual((values | own_methods()) & pythons, set())
        for name in values | own_methods():
            self.assertRegex(name, r"^[a-z][a-z0-9_]*$")

    def test_no_local_is_called_like_a_class_or_an_import_of_its_file(self):
        for path in FILES:
            tree = tree_of(path)
            tops = {part.name for part in tree.body if isinstance(part, ast.ClassDef)}
            tops |= {alias.name for part in tree.body if isinstance(part, ast.ImportFrom) for alias in part.names}
            for node in ast.walk(tree):
                if isinstance(node, ast.arg):
                    self.assertNotIn(node.arg, tops, path)
                if isinstance(node, ast.Name) and isinstance(node.ctx, ast.Store):
                    self.assertNotIn(node.id, tops, path)

    def test_sets_are_only_asked_on_the_spot(self):
        for path in FILES:
            tree = tree_of(path)
            fine = [
                part
                for node in ast.walk(tree)
                if isinstance(node, ast.Call) and called(node) in ("sorted", "len") and not node.keywords
                for part in node.args
            ]
            for node in ast.walk(tree):
                if isinstance(node, ast.Set) or (isinstance(node, ast.Call) and called(node) in ("set", "frozenset")):
                    self.assertIn(node, fine, f"{path.name}:{node.lineno}")

    def test_what_is_walked_at_once_is_not_kept(self):
        for path in FILES:
            tree = tree_of(path)
            fine = [node.iter for node in ast.walk(tree) if isinstance(node, (ast.For, ast.comprehension))]
            for node in ast.walk(tree):
                if isinstance(node, ast.Call) and called(node) in ("list", "tuple", "dict", "sorted", "sum"):
                    fine.extend(node.args[:1])
            for node in ast.walk(tree):
                if isinstance(node, ast.Call) and called(node) in WALKED_AT_ONCE:
                    self.assertIn(node, fine, f"{path.name}:{node.lineno}")

    def test_keywords(self):
        for node, where in self.each_node():
            if isinstance(node, ast.Call):
                for keyword in node.keywords:
                    self.assertIn((called(node), keyword.arg), KEYWORDS, where)

    def test_imports_are_the_packages_own(self):
        for node, where in self.each_node():
            if isinstance(node, ast.ImportFrom):
                self.assertEqual(node.level, 0, where)
                self.assertRegex(node.module, r"^roomsay\.[a-z]", where)
                defined = importlib.import_module(node.module)
                tops = [part.name for part in tree_of(path_of(node.module)).body if hasattr(part, "name")]
                for alias in node.names:
                    self.assertTrue(hasattr(defined, alias.name), where)
                    if callable(getattr(defined, alias.name)):
                        self.assertIn(alias.name, tops, where)

    def test_no_file_draws_from_itself_in_whatever_many_steps(self):
        for path in FILES:
            reached, waiting = set(), drawn_from(path)
            while waiting:
                module = waiting.pop()
                if module not in reached:
                    reached.add(module)
                    waiting.extend(drawn_from(path_of(module)))
            self.assertNotIn(f"roomsay.{path.stem}", reached, path)

    def test_is_stands_beside_none_true_and_false_alone(self):
        for node, where in self.each_node():
            if isinstance(node, ast.Compare):
                for sign, right in zip(node.ops, node.comparators):
                    if isinstance(sign, (ast.Is, ast.IsNot)):
                        self.assertIsInstance(right, ast.Constant, where)
                        self.assertIn(right.value, (None, True, False), where)

    def test_no_power_but_a_written_one(self):
        for node, where in self.each_node():
            if isinstance(node, ast.BinOp) and isinstance(node.op, ast.Pow):
                self.assertIsInstance(node.right, ast.Constant, where)
                self.assertIn(node.right.value, range(65), where)

    def test_no_percent_sign_within_a_text(self):
        for path in FILES:
            with path.open("rb") as source:
                for token in tokenize.tokenize(source.readline):
                    if token.type == tokenize.STRING:
                        self.assertNotIn("%", token.string, path)


if __name__ == "__main__":
    unittest.main()
