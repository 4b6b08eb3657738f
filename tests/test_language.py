"""The package's files against the rules of LANGUAGE.md, as far as a look at the code can tell."""

import ast
import builtins
import pathlib
import re
import unittest

PACKAGE = pathlib.Path(__file__).resolve().parent.parent / "rimread"

BUILT_IN = set(
    "len range enumerate zip min max sum abs sorted reversed int str bool list tuple dict set frozenset isinstance "
    "ord repr any all divmod Exception ValueError TypeError KeyError IndexError LookupError ZeroDivisionError "
    "ArithmeticError OverflowError RuntimeError NotImplementedError AttributeError StopIteration object float "
    "bytes".split()
)
METHODS = set(
    "append clear copy count endswith extend find get index insert isalnum isalpha isdigit islower isspace isupper "
    "items join keys ljust lower lstrip partition pop remove replace reverse rfind rjust rpartition rsplit rstrip "
    "setdefault split splitlines startswith strip update upper values zfill bit_length".split()
)
UNUSED = set("register mro elements open input version_info with_traceback add_note format format_map".split())
UNUSED_NAMES = set(
    "attrgetter breakpoint builtins compile copyright credits delattr dir eval exec exit gc getattr globals hasattr "
    "help id importlib license locals methodcaller os quit setattr super type vars sys chr".split()
)
WORDS = re.compile(
    r"\b(type|typing|typing_extensions|enum|Enum|IntEnum|StrEnum|Flag|IntFlag|Generic|Protocol|ABC|ABCMeta|namedtuple"
    r"|NamedTuple|TypedDict|TYPE_CHECKING|abstractmethod)\b|dataclass|overload|contextmanager"
)
TWO_UNDERSCORES = ("__init__", "__eq__", "__repr__", "__str__", "__len__", "__all__", "__version__", "__name__")
WALKED = ("zip", "enumerate", "reversed", "range")
WALKED_METHODS = ("items", "keys", "values")
WALKERS = ("list", "tuple", "dict", "sorted", "sum", "any", "all", "enumerate", "zip", "min", "max")
NODES = (
    ast.Module, ast.ImportFrom, ast.alias, ast.FunctionDef, ast.ClassDef, ast.arguments, ast.arg, ast.Lambda,
    ast.Assign, ast.AugAssign, ast.If, ast.While, ast.For, ast.Return, ast.Break, ast.Continue, ast.Pass, ast.Raise,
    ast.Try, ast.ExceptHandler, ast.Expr, ast.Constant, ast.List, ast.Tuple, ast.Dict, ast.Set, ast.BinOp, ast.UnaryOp,
    ast.BoolOp, ast.Compare, ast.IfExp, ast.Call, ast.keyword, ast.Attribute, ast.Subscript, ast.Slice, ast.Name,
    ast.ListComp, ast.comprehension, ast.JoinedStr, ast.FormattedValue, ast.expr_context, ast.operator, ast.unaryop,
    ast.boolop, ast.cmpop,
)
NUMBER_OR_TEXT = (int, str, bool, type(None))
PYTHONS_OWN = set(dir(builtins))


class Source:
    def __init__(self, path):
        self.path = path
        self.module = "rimread" if path.stem == "__init__" else "rimread." + path.stem
        self.text = path.read_text(encoding="utf-8")
        self.tree = ast.parse(self.text)
        self.parent = {}
        for node in ast.walk(self.tree):
            for child in ast.iter_child_nodes(node):
                self.parent[child] = node

    def top_names(self):
        names = []
        for node in self.tree.body:
            if isinstance(node, (ast.FunctionDef, ast.ClassDef)):
                names.append(node.name)
            elif isinstance(node, ast.Assign):
                names.append(node.targets[0].id)
        return names

    def nodes(self, *kinds):
        return [node for node in ast.walk(self.tree) if isinstance(node, kinds)]

    def classes_and_imports(self):
        names = [node.name for node in self.nodes(ast.ClassDef)]
        return names + [alias.asname or alias.name for row in self.nodes(ast.ImportFrom) for alias in row.names]

    def is_top(self, node):
        return node in self.tree.body

    def is_docstring(self, node):
        return node is self.tree.body[0] and ast.get_docstring(self.tree) is not None


SOURCES = [Source(path) for path in sorted(PACKAGE.rglob("*.py"))]


def bound_name(node):
    if isinstance(node, ast.Name):
        return node.id if isinstance(node.ctx, ast.Store) else None
    return node.arg if isinstance(node, ast.arg) else node.name


def is_unlike_word(source, node):
    name = bound_name(node)
    return name is not None and not re.fullmatch("[A-Za-z][A-Za-z0-9_]*", name) and name not in TWO_UNDERSCORES


def hides_another(source, node):
    name = bound_name(node)
    if name is None or isinstance(source.parent[node], ast.ClassDef):
        return False
    return name in PYTHONS_OWN or not isinstance(node, ast.ClassDef) and name in source.classes_and_imports()


def is_called(source, node):
    around = source.parent[node]
    return isinstance(around, ast.Call) and around.func is node


def called_name(node):
    return node.func.id if isinstance(node.func, ast.Name) else node.func.attr


def is_kept_walk(source, node):
    if called_name(node) not in (WALKED if isinstance(node.func, ast.Name) else WALKED_METHODS):
        return False
    around = source.parent[node]
    if isinstance(around, (ast.For, ast.comprehension)):
        return around.iter is not node
    return not isinstance(around, ast.Call) or called_name(around) not in WALKERS + ("join",)


def is_kept_set(source, node):
    if called_name(node) not in ("set", "frozenset"):
        return False
    around = source.parent[node]
    while isinstance(around, ast.BinOp):
        around = source.parent[around]
    if isinstance(around, ast.Call):
        return called_name(around) not in ("sorted", "len")
    return not isinstance(around, ast.Compare)


def is_unlike_is(source, node):
    for operator, beside in zip(node.ops, node.comparators):
        if isinstance(operator, (ast.Is, ast.IsNot)):
            if not isinstance(beside, ast.Constant) or beside.value not in (None, True, False):
                return True
    return False


def is_open_power(source, node):
    if not isinstance(node.op, ast.Pow):
        return False
    exponent = node.right if isinstance(node, ast.BinOp) else node.value
    return not isinstance(exponent, ast.Constant) or exponent.value not in range(65)


def lines_of(node):
    return node.end_lineno - node.lineno + 1


class LanguageTest(unittest.TestCase):
    def none(self, rule, kinds, is_fault):
        faults = []
        for source in SOURCES:
            for node in source.nodes(*kinds):
                if is_fault(source, node):
                    faults.append((source.path.name, getattr(node, "lineno", ast.dump(node))))
        self.assertEqual(faults, [], rule)

    def test_files(self):
        self.assertTrue((PACKAGE / "__init__.py").is_file(), "L14")
        for path in PACKAGE.rglob("*"):
            if "__pycache__" not in path.parts:
                self.assertRegex(path.name, r"^[a-z0-9_]+\.py$", "L1, L14")
                self.assertNotIn(path.stem, PYTHONS_OWN, "L14")

    def test_signs_and_size(self):
        for source in SOURCES:
            lines = source.text.split("\n")
            self.assertLessEqual(len(lines), 401, "L10 " + source.path.name)
            for number, line in enumerate(lines, 1):
                with self.subTest(file=source.path.name, line=number):
                    self.assertLessEqual(len(line), 120, "L10")
                    self.assertRegex(line, r"^[ -~]*$", "L14")
                    self.assertIsNone(WORDS.search(line), "L17")

    def test_parts_of_the_language(self):
        self.none("L6, L7", [ast.AST], lambda source, node: not isinstance(node, NODES))
        self.none("L7", [ast.AST], lambda source, node: isinstance(node, (ast.Div, ast.MatMult)))

    def test_top_of_a_file(self):
        allowed = (ast.ImportFrom, ast.FunctionDef, ast.ClassDef, ast.Assign)
        for source in SOURCES:
            names = source.top_names()
            self.assertEqual(len(names), len(set(names)), "L15 " + source.path.name)
            for node in source.tree.body:
                self.assertTrue(source.is_docstring(node) or isinstance(node, allowed), "L3 " + source.path.name)

    def test_imports(self):
        tops = {source.module: source.top_names() for source in SOURCES}
        drawn = {source.module: [row.module for row in source.nodes(ast.ImportFrom)] for source in SOURCES}
        self.none("L2", [ast.ImportFrom], lambda source, node: node.level != 0 or not source.is_top(node))
        self.none("L16", [ast.ImportFrom], lambda source, node: not set(
            alias.name for alias in node.names) <= set(tops.get(node.module, [])))
        for module in drawn:
            reached = list(drawn[module])
            for other in reached:
                reached += [further for further in drawn[other] if further not in reached]
            self.assertNotIn(module, reached, "L16")

    def test_functions(self):
        self.none("L10", [ast.FunctionDef], lambda source, node: lines_of(node) > 40)
        self.none("L4, L5", [ast.FunctionDef, ast.ClassDef], lambda source, node: node.decorator_list)
        self.none("L4", [ast.arguments], lambda source, node: (
            node.vararg or node.kwarg or node.kwonlyargs or node.posonlyargs))

    def test_classes(self):
        self.none("L5", [ast.ClassDef], lambda source, node: len(node.bases) > 1 or node.keywords)
        self.none("L15", [ast.ClassDef], lambda source, node: not source.is_top(node))
        self.none("L5", [ast.ClassDef], lambda source, node: (
            [part for part in node.body if not isinstance(part, (ast.FunctionDef, ast.Pass))]))

    def test_statements(self):
        self.none("L6", [ast.Assign], lambda source, node: (
            len(node.targets) != 1 or isinstance(node.targets[0], (ast.Tuple, ast.List))))
        self.none("L6", [ast.For, ast.While], lambda source, node: node.orelse)
        self.none("L6", [ast.Try], lambda source, node: node.finalbody)
        self.none("L6", [ast.ExceptHandler], lambda source, node: node.type is None)
        self.none("L6", [ast.Expr], lambda source, node: (
            not isinstance(node.value, ast.Call) and not source.is_docstring(node)))

    def test_expressions(self):
        self.none("L7", [ast.ListComp], lambda source, node: (
            len(node.generators) != 1 or len(node.generators[0].ifs) > 1))
        self.none("L7", [ast.FormattedValue], lambda source, node: (
            not isinstance(node.value, ast.Name) or node.format_spec is not None))
        self.none("L7", [ast.Constant], lambda source, node: not isinstance(node.value, NUMBER_OR_TEXT))
        self.none("L20", [ast.Compare], is_unlike_is)
        self.none("L27", [ast.Constant], lambda source, node: isinstance(node.value, str) and "%" in node.value)
        self.none("L27", [ast.BinOp, ast.AugAssign], is_open_power)

    def test_names(self):
        binders = [ast.Name, ast.arg, ast.FunctionDef, ast.ClassDef]
        self.none("L12", binders, is_unlike_word)
        self.none("L15", binders, hides_another)

    def test_names_of_pythons_own(self):
        self.none("L17, L27", [ast.Name], lambda source, node: node.id in UNUSED | UNUSED_NAMES)
        self.none("L8", [ast.Name], lambda source, node: node.id in PYTHONS_OWN - BUILT_IN)

    def test_methods(self):
        own = set()
        for source in SOURCES:
            for node in source.nodes(ast.ClassDef):
                own |= set(part.name for part in node.body if isinstance(part, ast.FunctionDef))
        self.none("L8, L17", [ast.Attribute], lambda source, node: node.attr in UNUSED)
        self.none("L25", [ast.Attribute], lambda source, node: (
            is_called(source, node) and node.attr not in METHODS | own))

    def test_methods_and_values_of_own_classes(self):
        taken = set()
        for kind in (str, int, list, tuple, dict, set, frozenset, bytes):
            taken |= set(name for name in dir(kind) if not name.startswith("__"))
        methods = set()
        values = set()
        for source in SOURCES:
            for node in source.nodes(ast.ClassDef):
                methods |= set(part.name for part in node.body if isinstance(part, ast.FunctionDef))
            values |= set(node.attr for node in source.nodes(ast.Attribute) if isinstance(node.ctx, ast.Store))
        self.assertEqual(methods & values, set(), "L18")
        self.assertEqual(methods & taken - METHODS - {"add", "discard"}, set(), "L26")
        self.assertEqual(values & taken, set(), "L26")
        self.assertEqual(methods & {"__eq__", "__len__", "__repr__", "__str__"}, set(), "L28")

    def test_tables_of_the_top(self):
        for source in SOURCES:
            for node in source.tree.body:
                if isinstance(node, ast.Assign):
                    within = [part for part in ast.walk(node.value) if isinstance(part, (ast.List, ast.Dict))]
                    self.assertLessEqual(len(within), 1, "L15 " + source.path.name)
                    self.assertTrue(not within or within[0] is node.value, "L15 " + source.path.name)

    def test_walked_at_once(self):
        self.none("L23", [ast.Call], is_kept_walk)

    def test_sets(self):
        self.none("L24", [ast.Call], is_kept_set)


if __name__ == "__main__":
    unittest.main()
