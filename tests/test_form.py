"""The part of Python that the package's files keep to, as far as it can be seen from their text."""

import ast
import builtins
import pathlib
import re
import unittest

PACKAGE = pathlib.Path(__file__).resolve().parent.parent / "blockfall"

OWN_CALLS = set("""
len range enumerate zip min max sum abs sorted reversed int str bool list tuple dict set frozenset isinstance ord repr
any all divmod Exception ValueError TypeError KeyError IndexError LookupError ZeroDivisionError ArithmeticError
OverflowError RuntimeError NotImplementedError AttributeError StopIteration
""".split())
OWN_METHODS = set("""
append clear copy count endswith extend find get index insert isalnum isalpha isdigit islower isspace isupper items
join keys ljust lower lstrip partition pop remove replace reverse rfind rjust rpartition rsplit rstrip setdefault split
splitlines startswith strip update upper values zfill bit_length
""".split())
NEVER_NAMES = set("""
register mro elements open input version_info with_traceback add_note attrgetter breakpoint builtins compile copyright
credits delattr dir eval exec exit gc getattr globals hasattr help id importlib license locals methodcaller os quit
setattr super type vars sys format format_map chr sort
""".split())
NEVER_WORDS = re.compile(
    r"\b(type|typing|typing_extensions|enum|Enum|IntEnum|StrEnum|Flag|IntFlag|Generic|Protocol|ABC|ABCMeta|namedtuple"
    r"|NamedTuple|TypedDict|TYPE_CHECKING|abstractmethod)\b|dataclass|overload|contextmanager")
METHODS_WITH_UNDERSCORES = {"__init__", "__eq__", "__repr__", "__str__", "__len__"}
FREE_VALUES = set("count index title find get join lower upper split strip copy add".split())
STATEMENTS = (
    ast.Assign, ast.AugAssign, ast.If, ast.While, ast.For, ast.Return, ast.Break, ast.Continue, ast.Pass, ast.Raise,
    ast.Try, ast.Expr, ast.FunctionDef, ast.ClassDef, ast.ImportFrom,
)
EXPRESSIONS = (
    ast.Constant, ast.Name, ast.Attribute, ast.Subscript, ast.Slice, ast.Call, ast.BinOp, ast.UnaryOp, ast.BoolOp,
    ast.Compare, ast.IfExp, ast.List, ast.Tuple, ast.Dict, ast.Set, ast.ListComp, ast.JoinedStr, ast.FormattedValue,
    ast.Lambda,
)
NEVER_OPERATORS = (ast.Div, ast.MatMult)


def files():
    return sorted(PACKAGE.glob("*.py"))


def trees():
    return [(path, ast.parse(path.read_text(encoding="utf-8"))) for path in files()]


def nodes(*kinds):
    for path, tree in trees():
        for node in ast.walk(tree):
            if isinstance(node, kinds):
                yield path, node


def bound_names(tree):
    """Every name that a file binds: parameters, targets, functions, methods, classes."""
    for node in ast.walk(tree):
        if isinstance(node, ast.arg):
            yield node.arg
        elif isinstance(node, ast.Name) and isinstance(node.ctx, ast.Store):
            yield node.id
        elif isinstance(node, (ast.FunctionDef, ast.ClassDef)):
            yield node.name


class FormTest(unittest.TestCase):
    def at(self, path, node):
        return self.subTest(file=path.name, line=getattr(node, "lineno", 0))

    def test_nothing_but_files_of_python_lies_in_the_package(self):
        names = [path.name for path in PACKAGE.iterdir() if path.name != "__pycache__"]
        self.assertIn("__init__.py", names)
        for name in names:
            self.assertRegex(name, r"\A([a-z][a-z0-9_]*|__init__|__main__)\.py\Z")
            self.assertNotIn(name[:-3], dir(builtins))

    def test_sizes_and_signs(self):
        for path in files():
            text = path.read_text(encoding="utf-8")
            rows = text.split("\n")
            with self.subTest(path.name):
                self.assertLessEqual(len(rows), 401)
                self.assertLessEqual(max(len(row) for row in rows), 120)
                self.assertRegex(text, r"\A[ -~\n]*\Z")
                self.assertIsNone(NEVER_WORDS.search(text))
        for path, node in nodes(ast.FunctionDef):
            with self.at(path, node):
                self.assertLessEqual(node.end_lineno - node.lineno + 1, 40)

    def test_statements_and_expressions(self):
        for path, node in nodes(ast.stmt):
            with self.at(path, node):
                self.assertIsInstance(node, STATEMENTS)
        for path, node in nodes(ast.expr):
            with self.at(path, node):
                self.assertIsInstance(node, EXPRESSIONS)
        for path, node in nodes(ast.operator):
            with self.at(path, node):
                self.assertNotIsInstance(node, NEVER_OPERATORS)
        for path, node in nodes(ast.Assign):
            with self.at(path, node):
                self.assertEqual(len(node.targets), 1)
        for path, node in nodes(ast.For, ast.While):
            with self.at(path, node):
                self.assertEqual(node.orelse, [])
        for path, node in nodes(ast.Try):
            with self.at(path, node):
                self.assertEqual(node.finalbody, [])
        for path, node in nodes(ast.ListComp):
            with self.at(path, node):
                self.assertEqual(len(node.generators), 1)
                self.assertLessEqual(len(node.generators[0].ifs), 1)
        for path, node in nodes(ast.FormattedValue):
            with self.at(path, node):
                self.assertIsInstance(node.value, ast.Name)
                self.assertIsNone(node.format_spec)

    def test_calls_by_themselves_are_all_that_stands_alone(self):
        for path, tree in trees():
            texts = [tree.body[0]] if ast.get_docstring(tree) else []
            for node in ast.walk(tree):
                if isinstance(node, ast.Expr) and node not in texts:
                    self.assertIsInstance(node.value, ast.Call, (path.name, node.lineno))

    def test_constants(self):
        for path, node in nodes(ast.Constant):
            with self.at(path, node):
                self.assertIn(type(node.value), (int, str, bool, type(None)))
                if isinstance(node.value, str):
                    self.assertNotIn("%", node.value)

    def test_is_stands_beside_none_true_and_false(self):
        for path, node in nodes(ast.Compare):
            with self.at(path, node):
                if any(isinstance(sign, (ast.Is, ast.IsNot)) for sign in node.ops):
                    self.assertIn(ast.unparse(node.comparators[0]), ("None", "True", "False"))

    def test_the_top_of_a_file(self):
        for path, tree in trees():
            bound = []
            for node in tree.body:
                with self.subTest(file=path.name, line=node.lineno):
                    self.assertIsInstance(
                        node, (ast.Expr, ast.ImportFrom, ast.FunctionDef, ast.ClassDef, ast.Assign))
                    if isinstance(node, ast.Assign):
                        bound.append(node.targets[0].id)
                        self.assertNotIsInstance(node.value, (ast.Call, ast.Set))
                    elif isinstance(node, (ast.FunctionDef, ast.ClassDef)):
                        bound.append(node.name)
                    elif isinstance(node, ast.ImportFrom):
                        bound += [alias.asname or alias.name for alias in node.names]
            self.assertEqual(len(bound), len(set(bound)), path.name)

    def test_imports(self):
        defined = {}
        for path, tree in trees():
            names = [node.name for node in tree.body if hasattr(node, "name")]
            names += [node.targets[0].id for node in tree.body if isinstance(node, ast.Assign)]
            defined[f"blockfall.{path.stem}"] = names
        drawn = {name: [] for name in defined}
        for path, node in nodes(ast.ImportFrom):
            with self.at(path, node):
                self.assertEqual(node.level, 0)
                self.assertIn(node.module, defined)
                drawn[f"blockfall.{path.stem}"].append(node.module)
                for alias in node.names:
                    self.assertIn(alias.name, defined[node.module])
        # A file that draws only from files already taken away goes too; of a ring none would go.
        while drawn:
            free = [name for name, modules in drawn.items() if not set(modules) & set(drawn)]
            self.assertNotEqual(free, [])
            drawn = {name: modules for name, modules in drawn.items() if name not in free}

    def test_functions(self):
        for path, node in nodes(ast.FunctionDef, ast.Lambda):
            with self.at(path, node):
                arguments = node.args
                self.assertEqual((arguments.vararg, arguments.kwarg), (None, None))
                self.assertEqual((arguments.kwonlyargs, arguments.posonlyargs), ([], []))
                self.assertEqual(getattr(node, "decorator_list", []), [])

    def test_classes(self):
        for path, node in nodes(ast.ClassDef):
            with self.at(path, node):
                self.assertLessEqual(len(node.bases), 1)
                self.assertEqual((node.keywords, node.decorator_list), ([], []))
                names = []
                for part in node.body:
                    self.assertIsInstance(part, (ast.FunctionDef, ast.Pass))
                    names.append(getattr(part, "name", "pass"))
                self.assertEqual(len(names), len(set(names)))

    def test_no_name_is_a_method_and_a_value(self):
        methods, values = set(), set()
        for path, node in nodes(ast.ClassDef):
            with self.at(path, node):
                methods |= {part.name for part in node.body if isinstance(part, ast.FunctionDef)}
        for path, node in nodes(ast.Attribute):
            with self.at(path, node):
                if isinstance(node.ctx, ast.Store):
                    values.add(node.attr)
        self.assertEqual(methods & values, set())

    def test_bound_names(self):
        own = set(dir(builtins))
        for path, tree in trees():
            for name in bound_names(tree):
                with self.subTest(file=path.name, name=name):
                    self.assertNotIn(name, NEVER_NAMES)
                    if name not in METHODS_WITH_UNDERSCORES:
                        self.assertRegex(name, r"\A[A-Za-z][A-Za-z0-9_]*\Z")
                        self.assertNotIn(name, own)
        for path, node in nodes(ast.Attribute):
            with self.at(path, node):
                self.assertNotIn(node.attr, NEVER_NAMES)
                if node.attr not in METHODS_WITH_UNDERSCORES:
                    self.assertRegex(node.attr, r"\A[A-Za-z][A-Za-z0-9_]*\Z")

    def test_no_parameter_or_local_is_called_like_a_name_of_the_top(self):
        for path, tree in trees():
            top = [node.name for node in tree.body if isinstance(node, (ast.FunctionDef, ast.ClassDef))]
            for node in tree.body:
                if isinstance(node, ast.ImportFrom):
                    top += [alias.asname or alias.name for alias in node.names]
            for node in ast.walk(tree):
                with self.subTest(file=path.name, line=getattr(node, "lineno", 0)):
                    if isinstance(node, ast.arg):
                        self.assertNotIn(node.arg, top)
                    if isinstance(node, ast.Name) and isinstance(node.ctx, ast.Store):
                        self.assertNotIn(node.id, top)

    def test_pythons_own_names(self):
        own = set(dir(builtins))
        for path, node in nodes(ast.Name):
            with self.at(path, node):
                if isinstance(node.ctx, ast.Load) and node.id in own:
                    self.assertIn(node.id, OWN_CALLS)

    def test_methods(self):
        made = set()
        for path, node in nodes(ast.ClassDef):
            with self.at(path, node):
                made |= {part.name for part in node.body if isinstance(part, ast.FunctionDef)}
        for path, node in nodes(ast.Call):
            with self.at(path, node):
                if isinstance(node.func, ast.Attribute):
                    self.assertIn(node.func.attr, OWN_METHODS | made)

    def test_own_methods_and_values_are_not_called_like_pythons(self):
        taken = set()
        for kind in (str, int, list, dict, set, bytes, tuple):
            taken |= set(dir(kind))
        for path, node in nodes(ast.ClassDef):
            with self.at(path, node):
                for part in ast.walk(node):
                    if isinstance(part, ast.Attribute) and isinstance(part.ctx, ast.Store):
                        self.assertNotIn(part.attr, taken - FREE_VALUES)
                for part in node.body:
                    if isinstance(part, ast.FunctionDef) and part.name not in METHODS_WITH_UNDERSCORES:
                        self.assertNotIn(part.name, taken - OWN_METHODS - {"add", "discard"})


if __name__ == "__main__":
    unittest.main()
