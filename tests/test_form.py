"""The form of the package's files: those of the language's rules (L1 to L28) that can be seen in one file by itself."""

import ast
import builtins
import re
import unittest
from pathlib import Path

PACKAGE = Path(__file__).resolve().parent.parent / "flipwright"

BUILTINS = set(
    "len range enumerate zip min max sum abs sorted reversed int str bool list tuple dict set frozenset isinstance "
    "ord repr any all divmod Exception ValueError TypeError KeyError IndexError LookupError ZeroDivisionError "
    "ArithmeticError OverflowError RuntimeError NotImplementedError AttributeError StopIteration".split())
METHODS = set(
    "append clear copy count endswith extend find get index insert isalnum isalpha isdigit islower isspace isupper "
    "items join keys ljust lower lstrip partition pop remove replace reverse rfind rjust rpartition rsplit rstrip "
    "setdefault split splitlines startswith strip update upper values zfill bit_length".split())
OWN_UNDERSCORES = {"__init__", "__eq__", "__repr__", "__str__", "__len__"}
BANNED_NAMES = {"register", "mro", "elements", "open", "input", "version_info", "with_traceback", "add_note",
                "format", "format_map"}
BANNED_WORDS = re.compile(
    r"\b(type|typing|typing_extensions|enum|Enum|IntEnum|StrEnum|Flag|IntFlag|Generic|Protocol|ABC|ABCMeta|"
    r"namedtuple|NamedTuple|TypedDict|TYPE_CHECKING|abstractmethod)\b|dataclass|overload|contextmanager")
NODES = (
    ast.Module, ast.ImportFrom, ast.alias, ast.FunctionDef, ast.arguments, ast.arg, ast.Lambda, ast.ClassDef,
    ast.Assign, ast.AugAssign, ast.If, ast.While, ast.For, ast.Return, ast.Break, ast.Continue, ast.Pass, ast.Raise,
    ast.Try, ast.ExceptHandler, ast.Expr, ast.Constant, ast.List, ast.Tuple, ast.Dict, ast.Set, ast.BinOp, ast.UnaryOp,
    ast.BoolOp, ast.Compare, ast.IfExp, ast.Call, ast.keyword, ast.Attribute, ast.Subscript, ast.Slice, ast.ListComp,
    ast.comprehension, ast.JoinedStr, ast.FormattedValue, ast.Name, ast.expr_context, ast.operator, ast.unaryop,
    ast.boolop, ast.cmpop)
KEYWORDS = {"sorted": {"key", "reverse"}, "min": {"key", "default"}, "max": {"key", "default"}, "sum": {"start"},
            "enumerate": {"start"}, "zip": {"strict"}}
WALKED = {"zip", "enumerate", "reversed", "range"}
WALKED_METHODS = {"items", "keys", "values"}
WALKERS = {"list", "tuple", "dict", "sorted", "sum", "any", "all", "enumerate", "zip", "min", "max"}
VALUES_LIKE_PYTHONS = set("count index title find get join lower upper split strip copy add".split())
PYTHONS_OWN = {name for kind in (str, int, list, dict, set, frozenset, tuple, bytes) for name in dir(kind)}
SINGLE_RULES = []


def rule(check):
    SINGLE_RULES.append(check)
    return check


def names_bound(node):
    if isinstance(node, ast.arg):
        return [node.arg]
    if isinstance(node, (ast.FunctionDef, ast.ClassDef)):
        return [node.name]
    if isinstance(node, ast.Name) and isinstance(node.ctx, ast.Store):
        return [node.id]
    return []


@rule
def l4_plain_functions(node):
    if isinstance(node, ast.arguments):
        return bool(node.vararg or node.kwarg or node.kwonlyargs or node.posonlyargs)
    return isinstance(node, (ast.FunctionDef, ast.ClassDef)) and bool(node.decorator_list)


@rule
def l5_plain_classes(node):
    if not isinstance(node, ast.ClassDef):
        return False
    if len(node.bases) > 1 or node.keywords:
        return True
    return not all(isinstance(part, (ast.FunctionDef, ast.Pass)) for part in node.body)


@rule
def l6_l7_statements_and_values(node):
    if not isinstance(node, NODES) or isinstance(node, ast.Div):
        return True
    if isinstance(node, ast.Constant):
        return isinstance(node.value, (float, bytes, complex)) or node.value is ...
    if isinstance(node, ast.Assign):
        return len(node.targets) > 1
    if isinstance(node, (ast.For, ast.While)):
        return bool(node.orelse)
    if isinstance(node, ast.Try):
        return bool(node.finalbody) or any(handler.type is None for handler in node.handlers)
    if isinstance(node, ast.ListComp):
        return len(node.generators) > 1 or len(node.generators[0].ifs) > 1
    return False


@rule
def l8_names_of_python(node):
    if isinstance(node, ast.Name) and isinstance(node.ctx, ast.Load):
        return node.id in vars(builtins) and node.id not in BUILTINS
    return any(name in vars(builtins) for name in names_bound(node))


@rule
def l10_short_functions(node):
    return isinstance(node, ast.FunctionDef) and node.end_lineno - node.lineno + 1 > 40


@rule
def l12_plain_names(node):
    if isinstance(node, ast.Attribute):
        return node.attr.startswith("_") and node.attr not in OWN_UNDERSCORES
    return any(name.startswith("_") and name not in OWN_UNDERSCORES for name in names_bound(node))


@rule
def l17_names_not_used(node):
    name = node.attr if isinstance(node, ast.Attribute) else node.id if isinstance(node, ast.Name) else None
    return name in BANNED_NAMES or any(name in BANNED_NAMES for name in names_bound(node))


@rule
def l19_named_errors(node):
    if isinstance(node, ast.Raise):
        return not isinstance(node.exc, ast.Call)
    return (isinstance(node, ast.ExceptHandler) and isinstance(node.type, ast.Name)
            and node.type.id in ("Exception", "TypeError"))


@rule
def l20_is(node):
    if not isinstance(node, ast.Compare):
        return False
    sides = [node.left] + node.comparators
    for place, sign in enumerate(node.ops):
        if isinstance(sign, (ast.Is, ast.IsNot)):
            beside = [side for side in sides[place:place + 2] if isinstance(side, ast.Constant)]
            if not any(side.value in (None, True, False) for side in beside):
                return True
    return False


@rule
def l21_no_annotations(node):
    return bool(getattr(node, "annotation", None) or getattr(node, "returns", None))


def called(node):
    """The name of what is called, if it is called by its bare name."""
    return node.func.id if isinstance(node, ast.Call) and isinstance(node.func, ast.Name) else None


@rule
def l22_keywords_of_python(node):
    if called(node) in BUILTINS:
        return any(keyword.arg not in KEYWORDS.get(called(node), ()) for keyword in node.keywords)
    return isinstance(node, ast.Call) and isinstance(node.func, ast.Attribute) and node.func.attr in METHODS and bool(
        node.keywords)


@rule
def l22_python_is_called(node):
    if not (isinstance(node, ast.Name) and node.id in BUILTINS):
        return False
    if isinstance(node.parent, ast.Call) and node.parent.func is node or isinstance(node.parent, ast.keyword):
        return False
    # Classes stand by isinstance, except and as a base, too.
    return node.id not in ("int", "str", "bool", "list", "tuple", "dict") and node.id[0].islower()


@rule
def l23_walked_at_once(node):
    method = isinstance(node, ast.Call) and isinstance(node.func, ast.Attribute) and node.func.attr in WALKED_METHODS
    if not (method or called(node) in WALKED):
        return False
    parent = node.parent
    if isinstance(parent, (ast.For, ast.comprehension)):
        return parent.iter is not node
    if isinstance(parent, ast.Call) and isinstance(parent.func, ast.Attribute) and parent.func.attr == "join":
        return not isinstance(parent.func.value, ast.Constant)
    if called(parent) in ("min", "max") and len(parent.args) != 1:
        return True
    return not (called(parent) in WALKERS and parent.args[0] is node)


@rule
def l24_sets(node):
    if not (isinstance(node, ast.Set) or called(node) in ("set", "frozenset")):
        return False
    while isinstance(node.parent, ast.BinOp):
        node = node.parent
    if isinstance(node.parent, ast.Compare):
        return not all(isinstance(sign, (ast.In, ast.NotIn, ast.Eq, ast.NotEq)) for sign in node.parent.ops)
    return called(node.parent) not in ("len", "sorted") or bool(node.parent.keywords)


@rule
def l27_numbers_and_texts(node):
    if isinstance(node, ast.BinOp) and isinstance(node.op, ast.Pow):
        return not (isinstance(node.right, ast.Constant) and 0 <= node.right.value <= 64)
    return isinstance(node, ast.Constant) and isinstance(node.value, str) and "%" in node.value


@rule
def l26_names_of_values_and_methods(node):
    if isinstance(node, ast.Attribute) and isinstance(node.ctx, ast.Store):
        return node.attr in PYTHONS_OWN and node.attr not in VALUES_LIKE_PYTHONS
    if isinstance(node, ast.FunctionDef) and isinstance(node.parent, ast.ClassDef):
        return node.name in PYTHONS_OWN and node.name not in METHODS | OWN_UNDERSCORES | {"add", "discard"}
    return False


@rule
def l28_init_gives_back_nothing(node):
    if not isinstance(node, ast.Return):
        return False
    while not isinstance(node, ast.FunctionDef):
        node = node.parent
    return node.name == "__init__"


def is_plain(node, functions, within=False):
    """Whether a value of a file's top is plain: no list or dict holds another one."""
    if isinstance(node, ast.Constant):
        return node.value is None or isinstance(node.value, (int, str))
    if isinstance(node, ast.Name):
        return node.id in functions
    if isinstance(node, ast.Tuple):
        return all(is_plain(part, functions, within) for part in node.elts)
    if isinstance(node, ast.List):
        return not within and all(is_plain(part, functions, True) for part in node.elts)
    return isinstance(node, ast.Dict) and not within and all(
        is_plain(part, functions, True) for part in node.keys + node.values)


def value_faults(tree):
    functions = []
    for part in tree.body:
        functions += [part.name] if isinstance(part, ast.FunctionDef) else []
        if isinstance(part, ast.Assign) and not is_plain(part.value, functions):
            yield ("l3_l15_plain_values", part.lineno)


def is_read(node):
    """Whether a list or dict of a file's top is only read here."""
    parent = node.parent
    if isinstance(parent, ast.Subscript):
        return parent.value is node and isinstance(parent.ctx, ast.Load)
    if isinstance(parent, ast.Attribute):
        return parent.attr in ("get", "items", "keys", "values", "index", "count", "copy")
    return isinstance(parent, (ast.Compare, ast.For, ast.comprehension)) or called(parent) in WALKERS | {"len"}


def kept_faults(tree):
    kept = {target.id for part in tree.body if isinstance(part, ast.Assign)
            and isinstance(part.value, (ast.List, ast.Dict)) for target in part.targets}
    for node in ast.walk(tree):
        if isinstance(node, ast.Name) and node.id in kept and isinstance(node.ctx, ast.Load) and not is_read(node):
            yield ("l15_only_read", node.lineno)


def lambda_faults(tree):
    seen = [(node.lineno, tuple(each.arg for each in node.args.args)) for node in ast.walk(tree)
            if isinstance(node, ast.Lambda)]
    return [("l13_two_lambdas", line) for line, names in sorted(set(seen)) if seen.count((line, names)) > 1]


def stands_as_a_class(node):
    """Whether the name of a class is called, a base, an annotation's, or stands by isinstance, except or __init__."""
    parent = node.parent.parent if isinstance(node.parent, ast.Tuple) else node.parent
    if isinstance(parent, ast.Call):
        return parent.func is node or called(parent) == "isinstance" and parent.args[0] is not node
    if isinstance(parent, ast.Attribute):
        return parent.attr == "__init__"
    return isinstance(parent, (ast.ClassDef, ast.ExceptHandler))


def class_faults(tree):
    classes = {node.name for node in tree.body if isinstance(node, ast.ClassDef)}
    classes |= {alias.name for part in tree.body if isinstance(part, ast.ImportFrom) for alias in part.names
                if alias.name[0].isupper() and not alias.name.isupper()}
    for node in ast.walk(tree):
        if isinstance(node, ast.Name) and node.id in classes and not stands_as_a_class(node):
            yield ("l18_classes", node.lineno)


def shadowing_faults(tree):
    taken = {alias.name for part in tree.body if isinstance(part, ast.ImportFrom) for alias in part.names}
    taken |= {part.name for part in tree.body if isinstance(part, ast.ClassDef)}
    for part in tree.body:
        for node in ast.walk(part):
            if node is not part and any(name in taken for name in names_bound(node)):
                yield ("l15_names_of_imports_and_classes", node.lineno)


def is_docstring(part):
    return isinstance(part, ast.Expr) and isinstance(part.value, ast.Constant) and isinstance(part.value.value, str)


def top_faults(tree):
    faults = []
    for place, part in enumerate(tree.body):
        if not (isinstance(part, (ast.ImportFrom, ast.FunctionDef, ast.ClassDef, ast.Assign))
                or place == 0 and is_docstring(part)):
            faults.append(("l3_top_of_a_module", part.lineno))
    bound = [name for part in tree.body for name in names_bound(part)]
    bound += [target.id for part in tree.body if isinstance(part, ast.Assign) for target in part.targets]
    if len(bound) != len(set(bound)):
        faults.append(("l15_each_name_once", 1))
    return faults


def import_faults(node):
    return (node.level != 0 or not (node.module or "").startswith("flipwright.")
            or not (PACKAGE / (node.module.split(".", 1)[1] + ".py")).is_file()
            or any(alias.name == "*" or alias.asname for alias in node.names))


def method_faults(tree, own_methods):
    for node in ast.walk(tree):
        if isinstance(node, ast.Call) and isinstance(node.func, ast.Attribute):
            if node.func.attr not in METHODS | own_methods | OWN_UNDERSCORES:
                yield ("l25_methods", node.lineno)


def text_faults(source):
    lines = source.split("\n")
    if len(lines) > 401:
        yield ("l10_short_files", 401)
    for number, line in enumerate(lines, start=1):
        if len(line) > 120 or "\t" in line:
            yield ("l10_short_lines", number)
        if not all(" " <= sign <= "~" for sign in line):
            yield ("l14_signs", number)
        if BANNED_WORDS.search(line):
            yield ("l17_words", number)


def faults_of(source, own_methods=frozenset()):
    tree = ast.parse(source)
    for node in ast.walk(tree):
        for child in ast.iter_child_nodes(node):
            child.parent = node
    faults = list(text_faults(source)) + top_faults(tree) + list(method_faults(tree, set(own_methods)))
    for check in (shadowing_faults, value_faults, kept_faults, lambda_faults, class_faults):
        faults += check(tree)
    docstring = tree.body[0] if tree.body and is_docstring(tree.body[0]) else None
    for node in ast.walk(tree):
        if isinstance(node, ast.Expr) and node is not docstring and not isinstance(node.value, ast.Call):
            faults.append(("l6_calls_alone", node.lineno))
        if isinstance(node, ast.ImportFrom) and import_faults(node):
            faults.append(("l2_imports", node.lineno))
        faults += [(check.__name__, getattr(node, "lineno", 0)) for check in SINGLE_RULES if check(node)]
    return faults


def methods_of(trees):
    classes = [node for tree in trees for node in ast.walk(tree) if isinstance(node, ast.ClassDef)]
    return {part.name for node in classes for part in node.body if isinstance(part, ast.FunctionDef)}


def values_of(trees):
    nodes = [node for tree in trees for node in ast.walk(tree) if isinstance(node, ast.Attribute)]
    return {node.attr for node in nodes if isinstance(node.ctx, ast.Store)}


def drawn_from(tree):
    return [node.module.split(".")[1] for node in tree.body if isinstance(node, ast.ImportFrom)]


class TestThePackage(unittest.TestCase):
    def setUp(self):
        self.sources = {path.stem: path.read_text("ascii") for path in sorted(PACKAGE.glob("*.py"))}
        self.trees = {name: ast.parse(source) for name, source in self.sources.items()}

    def test_only_plain_files_lie_in_it(self):
        for path in PACKAGE.iterdir():
            if path.name != "__pycache__":
                self.assertRegex(path.name, r"^[a-z_][a-z0-9_]*\.py$")
        self.assertIn("__init__", self.sources)

    def test_each_file_keeps_to_the_rules(self):
        own_methods = methods_of(self.trees.values())
        for name, source in self.sources.items():
            with self.subTest(name):
                self.assertEqual(faults_of(source, own_methods), [])

    def test_no_name_is_a_method_and_a_value(self):
        self.assertEqual(methods_of(self.trees.values()) & values_of(self.trees.values()), set())

    def test_no_two_files_draw_from_one_another(self):
        waiting = {name: drawn_from(tree) for name, tree in self.trees.items()}
        while waiting:
            ready = [name for name, drawn in waiting.items() if not any(each in waiting for each in drawn)]
            self.assertTrue(ready, f"these draw from one another: {sorted(waiting)}")
            waiting = {name: drawn for name, drawn in waiting.items() if name not in ready}


class TestTheRules(unittest.TestCase):
    def assert_fault(self, name, source):
        self.assertIn(name, [fault for fault, line in faults_of(source)], source)

    def test_what_is_walked_at_once_and_sets_on_the_spot_are_no_fault(self):
        for line in ("[y for y in zip(x, x)]", "list(enumerate(x, start=1))", "len(set(x) - set(x))", "1 in {1, 2, 3}",
                     "sorted(set(x) | set(x))", "max(range(9))", "', '.join(x.keys())", "sorted(x, key=len)",
                     "isinstance(x, (int, str))", "set(x) == set(x)", "dict(zip(x, x))"):
            with self.subTest(line):
                self.assertEqual(faults_of("def f(x):\n    return " + line + "\n"), [])

    def test_lists_of_the_top_that_are_read_and_classes_that_stand_as_such_are_no_fault(self):
        source = ("XS = {1: (2, 3)}\n\n\nclass C:\n    def __init__(self):\n        self.index = 1\n\n\n"
                  "class D(C):\n    def __init__(self):\n        C.__init__(self)\n\n\n"
                  "def f(x):\n    return [XS[1], XS.get(2), 1 in XS, len(XS), dict(XS), C(), isinstance(x, (C, D))]\n")
        self.assertEqual(faults_of(source), [])

    def test_a_plain_file_has_no_fault(self):
        self.assertEqual(faults_of('"""Why."""\n\nONE = (1, 1)\n\n\ndef f(x):\n    return [y for y in x if y]\n'), [])

    def test_faults_are_found(self):
        for name, source in [
            ("l2_imports", "from math import gcd\n"),
            ("l2_imports", "from flipwright.nowhere import gcd\n"),
            ("l3_top_of_a_module", "if True:\n    x = 1\n"),
            ("l3_l15_plain_values", "x = 1 + 1\n"),
            ("l3_l15_plain_values", "x = [[1], [2]]\n"),
            ("l3_l15_plain_values", "x = {1: (2, [3])}\n"),
            ("l3_l15_plain_values", "x = [len]\n"),
            ("l13_two_lambdas", "def f(g):\n    return g(lambda x: x, lambda x: 1)\n"),
            ("l15_only_read", "xs = [1]\n\n\ndef f():\n    return xs\n"),
            ("l15_only_read", "xs = [1]\n\n\ndef f():\n    xs.append(2)\n"),
            ("l15_only_read", "xs = {1: 2}\n\n\ndef f():\n    xs[1] = 3\n"),
            ("l18_classes", "class C:\n    pass\n\n\ndef f():\n    return [C]\n"),
            ("l18_classes", "from flipwright.graphs import Graphs\n\n\ndef f(x):\n    return x(Graphs)\n"),
            ("l26_names_of_values_and_methods", "class C:\n    def __init__(self):\n        self.items = 1\n"),
            ("l26_names_of_values_and_methods", "class C:\n    def numerator(self):\n        return 1\n"),
            ("l28_init_gives_back_nothing", "class C:\n    def __init__(self):\n        if 1:\n            return\n"),
            ("l4_plain_functions", "def f(*xs):\n    return xs\n"),
            ("l5_plain_classes", "class C:\n    x = 1\n"),
            ("l6_calls_alone", "def f():\n    'why'\n    return 1\n"),
            ("l6_l7_statements_and_values", "import math\n"),
            ("l6_l7_statements_and_values", "def f(x):\n    assert x\n"),
            ("l6_l7_statements_and_values", "def f(x):\n    return x / 2\n"),
            ("l6_l7_statements_and_values", "def f(x):\n    return {y: 1 for y in x}\n"),
            ("l6_l7_statements_and_values", "def f(x):\n    y = z = x\n    return y\n"),
            ("l8_names_of_python", "def f(x):\n    return hash(x)\n"),
            ("l8_names_of_python", "def f(sum):\n    return sum\n"),
            ("l10_short_functions", "def f(x):\n" + "    x += 1\n" * 40),
            ("l10_short_lines", "x = '" + "a" * 120 + "'\n"),
            ("l12_plain_names", "def f(_):\n    return 1\n"),
            ("l14_signs", "# \u00e9\n"),
            ("l15_each_name_once", "x = 1\nx = 2\n"),
            ("l15_names_of_imports_and_classes", "from flipwright.words import end_of\n\n\ndef f(end_of):\n    pass\n"),
            ("l15_names_of_imports_and_classes", "class C:\n    pass\n\n\ndef f(x):\n    C = x\n    return C\n"),
            ("l17_names_not_used", "def register(x):\n    return x\n"),
            ("l17_words", "# the enum\n"),
            ("l19_named_errors", "def f():\n    raise ValueError\n"),
            ("l20_is", "def f(x, y):\n    return x is y\n"),
            ("l21_no_annotations", "def f(x: int):\n    return x\n"),
            ("l22_keywords_of_python", "def f(x):\n    return int(x, base=2)\n"),
            ("l22_keywords_of_python", "def f(x):\n    return x.split(sep=1)\n"),
            ("l22_python_is_called", "def f(x):\n    return g(x, len)\n"),
            ("l23_walked_at_once", "def f(x):\n    y = zip(x, x)\n    return y\n"),
            ("l23_walked_at_once", "def f(x):\n    return max(range(x), range(x))\n"),
            ("l23_walked_at_once", "def f(x):\n    return g(x.items())\n"),
            ("l23_walked_at_once", "def f(x):\n    return zip(x, reversed(x))\n"),
            ("l24_sets", "def f(x):\n    y = set(x)\n    return y\n"),
            ("l24_sets", "def f(x):\n    return [y for y in set(x)]\n"),
            ("l24_sets", "def f(x):\n    return sorted(set(x), key=len)\n"),
            ("l25_methods", "def f(x):\n    x.sort()\n"),
            ("l27_numbers_and_texts", "def f(n):\n    return 2 ** n\n"),
            ("l27_numbers_and_texts", "x = '%'\n"),
        ]:
            with self.subTest(source):
                self.assert_fault(name, source)


if __name__ == "__main__":
    unittest.main()
