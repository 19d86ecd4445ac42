"""The package's own files keep to the small part of Python that it is written in."""

import ast
import builtins
import pathlib
import re
import unittest

PACKAGE = pathlib.Path(__file__).resolve().parent.parent / "throwgate"

NODES = set("""
    Module FunctionDef ClassDef ImportFrom alias arguments arg Expr Constant Name Load Store
    Assign AugAssign If While For Return Break Continue Pass Raise Try ExceptHandler
    BinOp UnaryOp BoolOp Compare IfExp Call keyword Attribute Subscript Slice List Tuple Dict
    ListComp comprehension JoinedStr FormattedValue Lambda
    Add Sub Mult FloorDiv Mod Pow BitAnd BitOr BitXor LShift RShift Invert USub UAdd Not And Or
    Eq NotEq Lt LtE Gt GtE Is IsNot In NotIn
""".split())

BUILTINS = set("""
    len range enumerate zip min max sum abs sorted reversed int str bool list tuple dict set frozenset
    isinstance ord repr any all divmod Exception ValueError TypeError KeyError IndexError LookupError
    ZeroDivisionError ArithmeticError OverflowError RuntimeError NotImplementedError AttributeError StopIteration
""".split())

WORDS = re.compile(
    r"\b(type|typing|typing_extensions|enum|Enum|IntEnum|StrEnum|Flag|IntFlag|Generic|Protocol|ABC|ABCMeta"
    r"|namedtuple|NamedTuple|TypedDict|TYPE_CHECKING|abstractmethod)\b|dataclass|overload|contextmanager"
)


# Methods of Python's own values that may be called.
METHODS = set("""
    append clear copy count endswith extend find get index insert isalnum isalpha isdigit islower isspace isupper
    items join keys ljust lower lstrip partition pop remove replace reverse rfind rjust rpartition rsplit rstrip
    setdefault split splitlines startswith strip update upper values zfill bit_length
""".split())

FORBIDDEN = set("""
    register mro elements open input version_info with_traceback add_note attrgetter breakpoint builtins compile
    copyright credits delattr dir eval exec exit gc getattr globals hasattr help id importlib license locals
    methodcaller os quit setattr super type vars sys format format_map
""".split())

PYTHONS_OWN = {name for kind in (str, int, list, dict, set, bytes, tuple) for name in dir(kind)}

WALKED = {"zip", "enumerate", "reversed", "range"}
WALKERS = {"list", "tuple", "dict", "sorted", "sum", "any", "all", "enumerate", "zip", "min", "max"}


def files():
    return sorted(path for path in PACKAGE.rglob("*") if "__pycache__" not in path.parts)


def trees():
    return [(path, ast.parse(path.read_text("utf-8"))) for path in files() if path.name != "__main__.py"]


def bound_names(node):
    if isinstance(node, (ast.FunctionDef, ast.ClassDef)):
        return [node.name]
    if isinstance(node, ast.arg):
        return [node.arg]
    if isinstance(node, ast.Name) and isinstance(node.ctx, ast.Store):
        return [node.id]
    if isinstance(node, ast.Attribute):
        return [node.attr]
    return []


def top_names(tree):
    return [name for top in tree.body for inner in [top] + getattr(top, "targets", []) for name in bound_names(inner)]


def imported_names(tree):
    rows = [node for node in tree.body if isinstance(node, ast.ImportFrom)]
    return [alias.asname or alias.name for node in rows for alias in node.names]


def classes(tree):
    return [node for node in tree.body if isinstance(node, ast.ClassDef)]


def methods_of(node):
    return [inner.name for inner in node.body if isinstance(inner, ast.FunctionDef)]


def values_of(node):
    return [inner.attr for inner in ast.walk(node)
            if isinstance(inner, ast.Attribute) and isinstance(inner.ctx, ast.Store)]


def own_classes():
    return [node for path, tree in trees() for node in classes(tree)]


def parents(tree):
    return {inner: node for node in ast.walk(tree) for inner in ast.iter_child_nodes(node)}


def called_name(node):
    return node.func.id if isinstance(node, ast.Call) and isinstance(node.func, ast.Name) else ""


class FormTest(unittest.TestCase):
    def test_files(self):
        self.assertIn(PACKAGE / "__init__.py", files())
        for path in files():
            self.assertRegex(path.name, r"^[a-z_][a-z0-9_]*\.py$")

    def test_signs_and_sizes(self):
        for path in files():
            text = path.read_bytes().decode("ascii")
            self.assertRegex(text, r"^[ -~\n]*\Z", path)
            lines = text.split("\n")
            self.assertLessEqual(len(lines), 401, path)
            self.assertLessEqual(max(len(line) for line in lines), 120, path)
            self.assertIsNone(WORDS.search(text), path)

    def test_nodes(self):
        for path, tree in trees():
            for node in ast.walk(tree):
                place = (path.name, getattr(node, "lineno", 0))
                self.assertIn(type(node).__name__, NODES, place)
                if isinstance(node, ast.FunctionDef):
                    self.assertLessEqual(node.end_lineno - node.lineno + 1, 40, place)
                    self.assertEqual(node.decorator_list, [], place)
                if isinstance(node, ast.Constant):
                    self.assertIn(type(node.value), (int, str, bool, type(None)), place)
                if isinstance(node, ast.Assign):
                    self.assertEqual(len(node.targets), 1, place)
                if isinstance(node, (ast.For, ast.While)):
                    self.assertEqual(node.orelse, [], place)

    def test_names(self):
        own = set(dir(builtins))
        for path, tree in trees():
            for node in ast.walk(tree):
                place = (path.name, getattr(node, "lineno", 0))
                for name in bound_names(node):
                    if name not in ("__init__", "__eq__", "__repr__", "__str__", "__len__"):
                        self.assertRegex(name, r"^[A-Za-z][A-Za-z0-9_]*$", place)
                if isinstance(node, ast.Name) and node.id in own:
                    self.assertIn(node.id, BUILTINS, place)
                    self.assertIsInstance(node.ctx, ast.Load, place)
                if isinstance(node, ast.arg):
                    self.assertNotIn(node.arg, own, place)

    def test_imports(self):
        for path, tree in trees():
            for node in ast.walk(tree):
                if isinstance(node, ast.ImportFrom):
                    place = (path.name, node.lineno)
                    self.assertIn(node, tree.body, place)
                    self.assertEqual(node.level, 0, place)
                    self.assertRegex(node.module, r"^throwgate\.[a-z_]+$", place)
                    source = ast.parse((PACKAGE / (node.module.split(".")[1] + ".py")).read_text("utf-8"))
                    for alias in node.names:
                        self.assertIn(alias.name, top_names(source), place)

    def test_no_two_files_draw_from_one_another(self):
        drawn = {path.stem: {node.module.split(".")[1] for node in tree.body if isinstance(node, ast.ImportFrom)}
                 for path, tree in trees()}
        while drawn:
            free = [name for name in drawn if not drawn[name] & set(drawn)]
            self.assertNotEqual(free, [], drawn)
            drawn = {name: drawn[name] for name in drawn if name not in free}

    def test_top_of_files(self):
        for path, tree in trees():
            for node in tree.body:
                self.assertIsInstance(node, (ast.Expr, ast.ImportFrom, ast.FunctionDef, ast.ClassDef, ast.Assign))
                if isinstance(node, ast.Expr):
                    self.assertIsInstance(getattr(node.value, "value", None), str, (path.name, node.lineno))
            names = top_names(tree) + imported_names(tree)
            self.assertEqual(len(set(names)), len(names), path.name)

    def test_locals_are_not_called_like_classes_and_imports(self):
        for path, tree in trees():
            taken = set(imported_names(tree)) | {node.name for node in classes(tree)} | set(dir(builtins))
            for function in ast.walk(tree):
                if isinstance(function, (ast.FunctionDef, ast.Lambda)):
                    for node in ast.walk(function):
                        place = (path.name, getattr(node, "lineno", 0))
                        if isinstance(node, ast.arg) or isinstance(getattr(node, "ctx", None), ast.Store):
                            for name in [] if isinstance(node, ast.Attribute) else bound_names(node):
                                self.assertNotIn(name, taken, place)
                        if isinstance(node, ast.ExceptHandler):
                            self.assertNotIn(node.name, taken, place)

    def test_classes(self):
        methods = [name for node in own_classes() for name in methods_of(node)]
        values = [name for node in own_classes() for name in values_of(node)]
        self.assertEqual(set(methods) & set(values), set())
        for node in own_classes():
            self.assertLessEqual(len(node.bases), 1, node.name)
            self.assertEqual(len(set(methods_of(node))), len(methods_of(node)), node.name)
            for inner in node.body:
                self.assertIsInstance(inner, (ast.FunctionDef, ast.Pass), node.name)
            for name in methods_of(node):
                self.assertTrue(name == "__init__" or name not in PYTHONS_OWN, name)
            for name in values_of(node):
                self.assertNotIn(name, PYTHONS_OWN)

    def test_a_class_is_not_kept_or_handed_on(self):
        names = {node.name for node in own_classes()}
        for path, tree in trees():
            above = parents(tree)
            for node in ast.walk(tree):
                if isinstance(node, ast.Name) and node.id in names:
                    parent = above[node]
                    right = (isinstance(parent, (ast.ClassDef, ast.ExceptHandler))
                             or (isinstance(parent, ast.Call) and parent.func is node)
                             or called_name(parent) == "isinstance")
                    self.assertTrue(right, (path.name, node.lineno))

    def test_methods_and_forbidden_names(self):
        own = {name for node in own_classes() for name in methods_of(node)}
        for path, tree in trees():
            for node in ast.walk(tree):
                place = (path.name, getattr(node, "lineno", 0))
                if isinstance(node, ast.Call) and isinstance(node.func, ast.Attribute):
                    self.assertIn(node.func.attr, METHODS | own, place)
                    self.assertEqual(node.keywords, [], place)
                for name in bound_names(node):
                    self.assertNotIn(name, FORBIDDEN, place)

    def test_errors(self):
        own = {node.name for node in own_classes()} - {"Beach", "Desk"}
        for path, tree in trees():
            for node in ast.walk(tree):
                place = (path.name, getattr(node, "lineno", 0))
                if isinstance(node, ast.Raise):
                    self.assertIn(called_name(node.exc), own, place)
                if isinstance(node, ast.ExceptHandler):
                    self.assertIn(node.type.id, own, place)
                if isinstance(node, ast.Try):
                    self.assertEqual(node.finalbody, [], place)

    def test_is_stands_beside_none_true_and_false(self):
        for path, tree in trees():
            for node in ast.walk(tree):
                if isinstance(node, ast.Compare) and isinstance(node.ops[0], (ast.Is, ast.IsNot)):
                    beside = node.comparators[0]
                    self.assertIsInstance(beside, ast.Constant, (path.name, node.lineno))
                    self.assertIn(type(beside.value), (type(None), bool), (path.name, node.lineno))

    def test_walked_at_once_and_sets_on_the_spot(self):
        for path, tree in trees():
            above = parents(tree)
            for node in ast.walk(tree):
                place = (path.name, getattr(node, "lineno", 0))
                if called_name(node) in WALKED:
                    parent = above[node]
                    walked = isinstance(parent, (ast.For, ast.comprehension)) and parent.iter is node
                    self.assertTrue(walked or called_name(parent) in WALKERS, place)
                if called_name(node) in ("set", "frozenset"):
                    self.assertIn(called_name(above[node]), ("len", "sorted"), place)

    def test_texts(self):
        for path, tree in trees():
            for node in ast.walk(tree):
                place = (path.name, getattr(node, "lineno", 0))
                if isinstance(node, ast.Constant) and isinstance(node.value, str):
                    self.assertNotIn("%", node.value, place)
                if isinstance(node, ast.FormattedValue):
                    self.assertIsInstance(node.value, ast.Name, place)
                    self.assertIsNone(node.format_spec, place)


if __name__ == "__main__":
    unittest.main()
