"""The package's files keep to the part of Python that the project allows, as far as a reading can tell."""

import ast
import builtins
import re
import unittest
from pathlib import Path

PACKAGE = Path(__file__).resolve().parent.parent / "waysbetween"

ALLOWED_NODES = (
    ast.Module, ast.FunctionDef, ast.ClassDef, ast.ImportFrom, ast.alias, ast.arguments, ast.arg,
    ast.Assign, ast.AugAssign, ast.If, ast.While, ast.For, ast.Return, ast.Break, ast.Continue, ast.Pass,
    ast.Raise, ast.Try, ast.ExceptHandler, ast.Expr, ast.Name, ast.Constant, ast.List, ast.Tuple, ast.Dict,
    ast.BinOp, ast.UnaryOp, ast.BoolOp, ast.Compare, ast.IfExp, ast.Call, ast.keyword, ast.Attribute,
    ast.Subscript, ast.Slice, ast.ListComp, ast.comprehension, ast.Lambda, ast.expr_context, ast.operator,
    ast.unaryop, ast.boolop, ast.cmpop,
)
BUILT_IN = set(
    "len range enumerate zip min max sum abs sorted reversed int str bool list tuple dict set isinstance ord repr "
    "any all divmod KeyError ValueError ZeroDivisionError".split())
METHODS = set(
    "append clear copy count endswith extend find get index insert isalnum isalpha isdigit islower isspace isupper "
    "items join keys ljust lower lstrip partition pop remove replace reverse rfind rjust rpartition rsplit rstrip "
    "setdefault split splitlines startswith strip update upper values zfill bit_length".split())
BARRED_WORDS = re.compile(
    r"\b(type|typing|typing_extensions|enum|Enum|IntEnum|StrEnum|Flag|IntFlag|Generic|Protocol|ABC|ABCMeta|namedtuple"
    r"|NamedTuple|TypedDict|TYPE_CHECKING|abstractmethod)\b|dataclass|overload|contextmanager")

KEYWORDS = {"sorted": {"key", "reverse"}, "min": {"key", "default"}, "max": {"key", "default"}, "sum": {"start"},
            "enumerate": {"start"}, "zip": {"strict"}}


def texts():
    """Each file's name and text."""
    return [(path.name, path.read_text("utf-8")) for path in sorted(PACKAGE.rglob("*.py"))]


def parts():
    """Each part of each file, and where it stands."""
    found = []
    for name, text in texts():
        for part in ast.walk(ast.parse(text)):
            found.append((part, f"{name}, line {getattr(part, 'lineno', 1)}"))
    return found


def bound_names(tree):
    """Every name that the file binds: defs, parameters, locals, imports."""
    names = set()
    for part in ast.walk(tree):
        if isinstance(part, (ast.FunctionDef, ast.ClassDef)):
            names.add(part.name)
        elif isinstance(part, ast.arg):
            names.add(part.arg)
        elif isinstance(part, ast.Name) and isinstance(part.ctx, ast.Store):
            names.add(part.id)
        elif isinstance(part, ast.ImportFrom):
            names.update(alias.asname or alias.name for alias in part.names)
    return names


def imported(tree):
    """The files of the package that this one draws from, and the names that it takes."""
    rows = [part for part in ast.walk(tree) if isinstance(part, ast.ImportFrom)]
    return {row.module.split(".")[-1] for row in rows}, {alias.name for row in rows for alias in row.names}


def local_names(tree):
    """Every parameter and every name that is bound within a def or a lambda."""
    found = set()
    for part in ast.walk(tree):
        if isinstance(part, (ast.FunctionDef, ast.Lambda)):
            found |= bound_names(part) - {getattr(part, "name", None)}
    return found


class LanguageTest(unittest.TestCase):
    def test_only_files_of_python_lie_in_the_package(self):
        others = [path.name for path in PACKAGE.rglob("*") if path.suffix != ".py" and "__pycache__" not in path.parts]
        self.assertEqual([name for name in others if name != "__pycache__"], [])
        self.assertIn("__init__.py", [name for name, _ in texts()])

    def test_signs_words_and_sizes(self):
        for name, text in texts():
            with self.subTest(file=name):
                self.assertRegex(text, r"\A[ -~\n]*\Z")
                self.assertIsNone(BARRED_WORDS.search(text))
                self.assertLessEqual(len(text.splitlines()), 400)
                self.assertLessEqual(max(len(line) for line in text.splitlines()), 120)

    def test_functions_are_short_and_plain(self):
        for part, place in parts():
            if isinstance(part, ast.FunctionDef):
                given = part.args
                self.assertLessEqual(part.end_lineno - part.lineno + 1, 40, place)
                self.assertFalse(given.vararg or given.kwarg or given.kwonlyargs or given.posonlyargs, place)
                self.assertEqual(part.decorator_list, [], place)

    def test_only_allowed_forms(self):
        for part, place in parts():
            self.assertIsInstance(part, ALLOWED_NODES, place)
            self.assertNotIsInstance(part, (ast.Div, ast.MatMult), place)
            if isinstance(part, ast.Constant):
                self.assertIn(type(part.value), (int, str, bool, type(None)), place)
            if isinstance(part, ast.Assign):
                self.assertEqual(len(part.targets), 1, place)
            if isinstance(part, (ast.For, ast.While)):
                self.assertEqual(part.orelse, [], place)
            if isinstance(part, ast.ListComp):
                self.assertEqual(len(part.generators), 1, place)
                self.assertLessEqual(len(part.generators[0].ifs), 1, place)

    def test_imports_are_the_package_s_own(self):
        for part, place in parts():
            if isinstance(part, ast.ImportFrom):
                self.assertEqual(part.level, 0, place)
                self.assertRegex(part.module, r"\Awaysbetween\.[a-z_]+\Z", place)
                self.assertNotIn("*", [alias.name for alias in part.names], place)

    def test_names_are_known_and_have_one_meaning(self):
        for name, text in texts():
            tree = ast.parse(text)
            bound = bound_names(tree)
            read = {part.id for part in ast.walk(tree) if isinstance(part, ast.Name)}
            with self.subTest(file=name):
                self.assertEqual(sorted(bound & set(dir(builtins))), [])
                self.assertEqual(sorted(read - bound - BUILT_IN), [])
                self.assertEqual([word for word in sorted(bound) if word[0] == "_" and word != "__init__"], [])

    def test_no_local_is_called_like_a_class_or_an_import(self):
        for name, text in texts():
            tree = ast.parse(text)
            classes = {part.name for part in ast.walk(tree) if isinstance(part, ast.ClassDef)}
            with self.subTest(file=name):
                self.assertEqual(sorted(local_names(tree) & (classes | imported(tree)[1])), [])

    def test_names_are_bound_once_at_the_top(self):
        for name, text in texts():
            body = ast.parse(text).body
            bound = [word for part in body for word in ([part.name] if hasattr(part, "name") else bound_names(part))]
            with self.subTest(file=name):
                self.assertEqual(len(bound), len(set(bound)))

    def test_no_two_files_draw_from_one_another(self):
        left = {name.removesuffix(".py"): imported(ast.parse(text))[0] for name, text in texts()}
        while left:
            free = [name for name in left if not left[name] & set(left)]
            self.assertNotEqual(free, [], left)
            left = {name: left[name] for name in left if name not in free}

    def test_names_are_drawn_from_where_they_are_defined(self):
        trees = {name.removesuffix(".py"): ast.parse(text) for name, text in texts()}
        for part, place in parts():
            if isinstance(part, ast.ImportFrom):
                source = trees[part.module.split(".")[-1]]
                defined = bound_names(source) - imported(source)[1]
                self.assertEqual([alias.name for alias in part.names if alias.name not in defined], [], place)

    def test_keywords(self):
        for part, place in parts():
            if isinstance(part, ast.Call):
                allowed = KEYWORDS.get(getattr(part.func, "id", None), set())
                self.assertLessEqual({given.arg for given in part.keywords}, allowed, place)

    def test_no_name_is_both_a_method_and_a_value(self):
        methods = {part.name for tree, _ in parts() if isinstance(tree, ast.ClassDef) for part in tree.body
                   if isinstance(part, ast.FunctionDef)}
        values = {part.attr for part, _ in parts() if isinstance(part, ast.Attribute)
                  and isinstance(part.ctx, ast.Store)}
        self.assertEqual(sorted(methods & values), [])

    def test_methods_are_the_package_s_own_or_allowed(self):
        own = set().union(*(bound_names(ast.parse(text)) for _, text in texts()))
        for part, place in parts():
            if isinstance(part, ast.Call) and isinstance(part.func, ast.Attribute):
                self.assertIn(part.func.attr, own | METHODS, place)


if __name__ == "__main__":
    unittest.main()
