"""The package keeps to the small part of Python that is asked for: what of it can be seen by reading the files.

The names L1 to L28 are those of the rules. What needs understanding rather than reading is not looked at here.
"""

import ast
import builtins
import pathlib
import re
import unittest

PACKAGE = pathlib.Path(__file__).resolve().parent.parent / "valleyvotes"
FILES = sorted(path for path in PACKAGE.rglob("*") if "__pycache__" not in path.parts)

STATEMENTS = (
    ast.FunctionDef, ast.ClassDef, ast.Assign, ast.AugAssign, ast.If, ast.While, ast.For, ast.Return, ast.Break,
    ast.Continue, ast.Pass, ast.Raise, ast.Try, ast.Expr, ast.ImportFrom,
)
EXPRESSIONS = (
    ast.Constant, ast.Name, ast.List, ast.Tuple, ast.Dict, ast.BinOp, ast.UnaryOp, ast.BoolOp, ast.Compare, ast.IfExp,
    ast.Call, ast.Attribute, ast.Subscript, ast.Slice, ast.ListComp, ast.Lambda,
)
OWN_NAMES = set(
    "len range enumerate zip min max sum abs sorted reversed int str bool list tuple dict set frozenset isinstance ord "
    "repr any all divmod Exception ValueError TypeError KeyError IndexError LookupError ZeroDivisionError "
    "ArithmeticError OverflowError RuntimeError NotImplementedError AttributeError StopIteration".split())
METHODS = set(
    "append clear copy count endswith extend find get index insert isalnum isalpha isdigit islower isspace isupper "
    "items join keys ljust lower lstrip partition pop remove replace reverse rfind rjust rpartition rsplit rstrip "
    "setdefault split splitlines startswith strip update upper values zfill bit_length".split())
PYTHONS = {name for name in dir(builtins) if not name.startswith("_")}
LAZY = ("zip", "enumerate", "reversed", "range", "items", "keys", "values")
NO_WORDS = (
    r"\b(type|typing|typing_extensions|enum|Enum|IntEnum|StrEnum|Flag|IntFlag|Generic|Protocol|ABC|ABCMeta|namedtuple|"
    r"NamedTuple|TypedDict|TYPE_CHECKING|abstractmethod)\b|dataclass|overload|contextmanager")
NO_NAMES = set(
    "register mro elements open input version_info with_traceback add_note attrgetter breakpoint builtins compile "
    "copyright credits delattr dir eval exec exit gc getattr globals hasattr help id importlib license locals "
    "methodcaller os quit setattr super type vars sys format format_map".split())


def trees():
    for path in FILES:
        yield path.name, ast.parse(path.read_text(encoding="utf-8"))


def nodes(*kinds):
    for name, tree in trees():
        for node in ast.walk(tree):
            if isinstance(node, kinds):
                yield f"{name}:{getattr(node, 'lineno', 0)}", node


def bound_names(tree):
    """The names that are given a meaning anywhere in a file."""
    for node in ast.walk(tree):
        if isinstance(node, (ast.FunctionDef, ast.ClassDef)):
            yield node.name
        elif isinstance(node, ast.arg):
            yield node.arg
        elif isinstance(node, (ast.Name, ast.Attribute)) and isinstance(node.ctx, ast.Store):
            yield node.id if isinstance(node, ast.Name) else node.attr
        elif isinstance(node, ast.alias):
            yield node.asname or node.name


class Language(unittest.TestCase):

    def test_files(self):
        """L1, L14."""
        self.assertIn("__init__.py", [path.name for path in FILES])
        for path in FILES:
            self.assertEqual(path.parent, PACKAGE)
            self.assertRegex(path.name, r"^(__init__|__main__|[a-z][a-z0-9_]*)\.py$")
            self.assertNotIn(path.stem, PYTHONS)
            self.assertIsNone(re.match(r"tests?$|testing$|test_|site$|conftest$", path.stem))

    def test_signs_words_and_sizes(self):
        """L10, L14, L17."""
        for path in FILES:
            text = path.read_text(encoding="utf-8")
            self.assertRegex(text, r"\A[ -~\n]*\Z", path.name)
            self.assertIsNone(re.search(NO_WORDS, text), path.name)
            self.assertLessEqual(text.count("\n"), 400, path.name)
            for line in text.splitlines():
                self.assertLessEqual(len(line), 120, (path.name, line))
        for place, node in nodes(ast.FunctionDef):
            self.assertLessEqual(node.end_lineno - node.lineno + 1, 40, place)

    def test_imports(self):
        """L2, L16."""
        drawn = {}
        for name, tree in trees():
            for node in tree.body:
                if isinstance(node, ast.ImportFrom):
                    self.assertRegex(node.module, r"^valleyvotes\.[a-z_]+$")
                    defined = list(bound_names(ast.parse((PACKAGE / (node.module[12:] + ".py")).read_text())))
                    for alias in node.names:
                        self.assertIn(alias.name, defined)
                        self.assertIsNone(alias.asname)
                    drawn.setdefault(name, []).append(node.module[12:] + ".py")
        self.assertNotIn("__init__.py", drawn)
        left = {path.name for path in FILES}
        while left:
            free = {name for name in left if not left & set(drawn.get(name, []))}
            self.assertTrue(free, f"files that draw from one another: {left}")
            left -= free

    def test_statements_and_expressions(self):
        """L6, L7, L13, L20, L21, L27."""
        for place, node in nodes(ast.stmt):
            self.assertIsInstance(node, STATEMENTS, place)
        for place, node in nodes(ast.expr):
            self.assertIsInstance(node, EXPRESSIONS, place)
        for place, node in nodes(ast.For, ast.While):
            self.assertEqual(node.orelse, [], place)
        for place, node in nodes(ast.Assign):
            self.assertEqual(len(node.targets), 1, place)
            self.assertNotIsInstance(node.targets[0], (ast.Tuple, ast.List), place)
        for place, node in nodes(ast.ListComp):
            self.assertEqual(len(node.generators), 1, place)
            self.assertLessEqual(len(node.generators[0].ifs), 1, place)
        for place, node in nodes(ast.BinOp, ast.AugAssign):
            self.assertNotIsInstance(node.op, (ast.Div, ast.MatMult, ast.Pow), place)
        for place, node in nodes(ast.Constant):
            self.assertIsInstance(node.value, (int, str, type(None)), place)
            if isinstance(node.value, str):
                self.assertNotIn("%", node.value, place)
        for place, node in nodes(ast.Compare):
            for op, other in zip(node.ops, node.comparators):
                if isinstance(op, (ast.Is, ast.IsNot)):
                    self.assertIn(getattr(other, "value", 0), (None, True, False), place)

    def test_functions_and_classes(self):
        """L4, L5, L18, L21."""
        for place, node in nodes(ast.FunctionDef):
            self.assertEqual(node.decorator_list, [], place)
            self.assertIsNone(node.returns, place)
            self.assertIsNone(node.args.vararg, place)
            self.assertIsNone(node.args.kwarg, place)
            self.assertEqual(node.args.kwonlyargs + node.args.posonlyargs, [], place)
            if node.name.startswith("__"):
                self.assertIn(node.name, ("__init__", "__eq__", "__repr__", "__str__", "__len__"), place)
        for place, node in nodes(ast.ClassDef):
            self.assertEqual(node.decorator_list + node.keywords, [], place)
            self.assertLessEqual(len(node.bases), 1, place)
            for part in node.body:
                told = isinstance(part, ast.Expr) and isinstance(part.value, ast.Constant)
                self.assertTrue(told or isinstance(part, ast.FunctionDef), place)

    def test_names(self):
        """L8, L12, L15, L17."""
        for name, tree in trees():
            bound = list(bound_names(tree))
            for own in bound:
                self.assertRegex(own, r"^([A-Za-z][A-Za-z0-9_]*|__init__)$", name)
                self.assertNotIn(own, PYTHONS, name)
            for node in ast.walk(tree):
                if isinstance(node, ast.Name) and node.id in PYTHONS:
                    self.assertIn(node.id, OWN_NAMES, name)
                if isinstance(node, (ast.Name, ast.Attribute)):
                    self.assertNotIn(node.id if isinstance(node, ast.Name) else node.attr, NO_NAMES, name)

    def test_the_top_of_a_file(self):
        """L3, L15."""
        for name, tree in trees():
            tops = []
            self.assertIsInstance(tree.body[0], ast.Expr, name)
            for node in tree.body[1:]:
                self.assertIsInstance(node, (ast.ImportFrom, ast.FunctionDef, ast.ClassDef, ast.Assign), name)
                if isinstance(node, ast.Assign):
                    for part in ast.walk(node.value):
                        if isinstance(part, ast.Name):
                            self.assertIn(part.id, tops, name)
                        self.assertNotIsInstance(part, (ast.Call, ast.BinOp, ast.ListComp, ast.Lambda), name)
                    tops.append(node.targets[0].id)
                elif isinstance(node, ast.ImportFrom):
                    tops += [alias.name for alias in node.names]
                else:
                    tops.append(node.name)
            self.assertEqual(len(tops), len(set(tops)), name)
            self.no_local_is_called_like(tops, tree, name)

    def no_local_is_called_like(self, tops, tree, name):
        for node in ast.walk(tree):
            if isinstance(node, ast.FunctionDef):
                for part in ast.walk(node):
                    if isinstance(part, ast.arg):
                        self.assertNotIn(part.arg, tops, name)
                    if isinstance(part, ast.Name) and isinstance(part.ctx, ast.Store):
                        self.assertNotIn(part.id, tops, name)

    def test_methods_that_are_called(self):
        """L25, L26."""
        own = [part.name for _, node in nodes(ast.ClassDef) for part in node.body if isinstance(part, ast.FunctionDef)]
        values = [node.attr for _, node in nodes(ast.Attribute) if isinstance(node.ctx, ast.Store)]
        self.assertEqual(set(own) & set(values), set())
        pythons_own = set(dir(str) + dir(int) + dir(list) + dir(dict) + dir(set) + dir(bytes))
        self.assertEqual((set(own) - {"__init__"} | set(values)) & pythons_own, set())
        for place, node in nodes(ast.Call):
            if isinstance(node.func, ast.Attribute):
                self.assertIn(node.func.attr, METHODS | set(own), place)

    def test_walked_at_once(self):
        """L22, L23, L24."""
        on_the_spot = []
        for _, node in nodes(ast.For, ast.comprehension):
            on_the_spot.append(ast.dump(node.iter, include_attributes=True))
        for place, node in nodes(ast.Call):
            called = getattr(node.func, "id", getattr(node.func, "attr", ""))
            if called in LAZY:
                self.assertIn(ast.dump(node, include_attributes=True), on_the_spot, place)
            self.assertNotIn(called, ("set", "frozenset"), place)
            for keyword in node.keywords:
                self.assertIn(called, ("sorted", "min", "max"), place)
                self.assertIn(keyword.arg, ("key", "reverse", "default"), place)


if __name__ == "__main__":
    unittest.main()
