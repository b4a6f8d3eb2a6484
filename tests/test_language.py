"""Holds the package's files against the rules of LANGUAGE.md that can be seen in a file's form.

With them it holds them against point [1]: without an outside import and without Python's names
for it, nothing can reach a clock, chance or a file.
"""

import ast
import builtins
import pathlib
import re
import unittest

PACKAGE = pathlib.Path(__file__).resolve().parent.parent / "meetbook"

NODES = (
    ast.Module, ast.Expr, ast.Assign, ast.AugAssign, ast.If, ast.While, ast.For, ast.Return, ast.Break,
    ast.Continue, ast.Pass, ast.Raise, ast.Try, ast.ExceptHandler, ast.FunctionDef, ast.ClassDef, ast.Lambda,
    ast.Import, ast.ImportFrom, ast.alias, ast.arguments, ast.arg, ast.keyword, ast.Constant, ast.List,
    ast.Tuple, ast.Dict, ast.Set, ast.BinOp, ast.UnaryOp, ast.BoolOp, ast.Compare, ast.IfExp, ast.Call,
    ast.Attribute, ast.Subscript, ast.Slice, ast.ListComp, ast.comprehension, ast.JoinedStr,
    ast.FormattedValue, ast.Name, ast.expr_context, ast.operator, ast.unaryop, ast.boolop, ast.cmpop,
)
OPERATORS_OUT = (ast.Div, ast.MatMult)
BUILTINS = set(
    "len range enumerate zip min max sum abs sorted reversed int str bool list tuple dict set frozenset"
    " isinstance ord repr any all divmod Exception ValueError TypeError KeyError IndexError LookupError"
    " ZeroDivisionError ArithmeticError OverflowError RuntimeError NotImplementedError AttributeError"
    " StopIteration".split()
)
METHODS = set(
    "append clear copy count endswith extend find get index insert isalnum isalpha isdigit islower isspace"
    " isupper items join keys ljust lower lstrip partition pop remove replace reverse rfind rjust rpartition"
    " rsplit rstrip setdefault split splitlines startswith strip update upper values zfill bit_length".split()
)
DUNDERS = set("__init__ __eq__ __repr__ __str__ __len__ __all__ __version__".split())
NAMES_OUT = set(
    "register mro elements open input version_info with_traceback add_note attrgetter breakpoint builtins"
    " compile copyright credits delattr dir eval exec exit gc getattr globals hasattr help id importlib"
    " license locals methodcaller os quit setattr super vars sys print format format_map".split()
)
WORDS_OUT = re.compile(
    r"\b(type|typing|typing_extensions|enum|Enum|IntEnum|StrEnum|Flag|IntFlag|Generic|Protocol|ABC|ABCMeta"
    r"|namedtuple|NamedTuple|TypedDict|TYPE_CHECKING|abstractmethod)\b|dataclass|overload|contextmanager"
)
PYTHONS_OWN = set().union(*[dir(each) for each in ("", 0, [], {}, set(), b"")])
VALUES_FREE = set("count index title find get join lower upper split strip copy add".split())
WALKED = set("zip enumerate reversed range".split())
VIEWS = set("items keys values".split())
WALKERS = set("list tuple dict sorted sum any all enumerate zip min max".split())
FILES_OUT = set("test tests testing site conftest sitecustomize usercustomize".split()) | set(dir(builtins))


def file_faults(name):
    if name == "__init__.py":
        return []
    stem = name[:-3]
    if not re.fullmatch(r"[a-z][a-z0-9_]*\.py", name):
        return ["L1"]
    if stem in FILES_OUT or stem.startswith("test_") or WORDS_OUT.search(stem):
        return ["L14"]
    return []


def text_faults(text):
    faults = []
    if re.search(r"[^ -~\n]", text):
        faults.append("L14")
    rows = text.split("\n")
    if len(rows) > 401 or max(len(row) for row in rows) > 120:
        faults.append("L10")
    if WORDS_OUT.search(text):
        faults.append("L17")
    return faults


def own_methods(trees):
    methods = set()
    for tree in trees:
        for node in ast.walk(tree):
            if isinstance(node, ast.ClassDef):
                methods |= {each.name for each in node.body if isinstance(each, ast.FunctionDef)}
    return methods


def bound_names(node):
    if isinstance(node, ast.arg):
        return [node.arg]
    if isinstance(node, (ast.FunctionDef, ast.ClassDef)):
        return [node.name]
    if isinstance(node, ast.Name) and isinstance(node.ctx, ast.Store):
        return [node.id]
    if isinstance(node, ast.ExceptHandler) and node.name:
        return [node.name]
    return []


def name_faults(node, methods):
    faults = []
    for name in bound_names(node):
        if name in DUNDERS:
            continue
        if not re.fullmatch(r"[A-Za-z][A-Za-z0-9_]*", name):
            faults.append("L12")
        if name in NAMES_OUT:
            faults.append("L17")
        elif name in dir(builtins) and name not in methods:
            faults.append("L15")
    if isinstance(node, ast.Name) and isinstance(node.ctx, ast.Load):
        if node.id in dir(builtins) and node.id not in BUILTINS:
            faults.append("L8")
    if isinstance(node, ast.Attribute):
        if node.attr in NAMES_OUT or (node.attr.startswith("_") and node.attr not in DUNDERS):
            faults.append("L17")
    if isinstance(node, ast.Call) and isinstance(node.func, ast.Attribute):
        if node.func.attr not in METHODS | methods | {"add", "discard", "__init__"}:
            faults.append("L25")
    return faults


def import_faults(node, modules):
    if isinstance(node, ast.Import):
        return ["L16"]
    if isinstance(node, ast.ImportFrom):
        if node.module == "__future__" and node.level == 0:
            return []
        if node.level or not (node.module or "").startswith("meetbook.") or node.module not in modules:
            return ["L2"]
        if any(each.name not in modules[node.module] for each in node.names):
            return ["L16"]
    return []


def def_faults(node):
    faults = []
    if isinstance(node, (ast.FunctionDef, ast.ClassDef)) and node.decorator_list:
        faults.append("L4" if isinstance(node, ast.FunctionDef) else "L5")
    if isinstance(node, ast.FunctionDef) and node.end_lineno - node.lineno + 1 > 40:
        faults.append("L10")
    if isinstance(node, ast.arguments) and (node.vararg or node.kwarg or node.kwonlyargs or node.posonlyargs):
        faults.append("L4")
    if isinstance(node, ast.ClassDef):
        if len(node.bases) > 1 or node.keywords:
            faults.append("L5")
        if not all(isinstance(each, (ast.FunctionDef, ast.Pass)) for each in node.body):
            faults.append("L5")
    return faults


def statement_faults(node, docstring):
    faults = []
    if isinstance(node, ast.Expr) and node is not docstring and not isinstance(node.value, ast.Call):
        faults.append("L6")
    if isinstance(node, ast.Assign) and len(node.targets) != 1:
        faults.append("L6")
    if isinstance(node, (ast.For, ast.While)) and node.orelse:
        faults.append("L6")
    if isinstance(node, ast.Try) and node.finalbody:
        faults.append("L6")
    if isinstance(node, ast.ExceptHandler):
        taken = ast.unparse(node.type) if node.type else "Exception"
        if re.search(r"\b(Exception|TypeError)\b", taken):
            faults.append("L19")
    return faults


def expression_faults(node):
    faults = []
    if isinstance(node, OPERATORS_OUT):
        faults.append("L7")
    if isinstance(node, ast.Constant):
        if not (node.value is None or isinstance(node.value, (bool, int, str))):
            faults.append("L7")
        if isinstance(node.value, str) and "%" in node.value:
            faults.append("L27")
    if isinstance(node, ast.ListComp):
        if len(node.generators) > 1 or len(node.generators[0].ifs) > 1:
            faults.append("L7")
    if isinstance(node, ast.FormattedValue):
        if not isinstance(node.value, ast.Name) or node.format_spec or node.conversion not in (-1, ord("r")):
            faults.append("L7")
    if isinstance(node, ast.Compare):
        sides = zip(node.ops, [node.left] + node.comparators, node.comparators)
        for operator, left, right in sides:
            if isinstance(operator, (ast.Is, ast.IsNot)) and not (is_single(left) or is_single(right)):
                faults.append("L20")
    return faults


def is_single(node):
    return isinstance(node, ast.Constant) and (node.value is None or isinstance(node.value, bool))


def top_faults(tree):
    for node in tree.body[1:] if ast.get_docstring(tree) is not None else tree.body:
        if not isinstance(node, (ast.ImportFrom, ast.Import, ast.FunctionDef, ast.ClassDef, ast.Assign)):
            return ["L3"]
    return []


def tree_faults(tree, modules, methods):
    docstring = tree.body[0] if tree.body and ast.get_docstring(tree) is not None else None
    faults = top_faults(tree) + local_faults(tree) + walking_faults(tree)
    for node in ast.walk(tree):
        if not isinstance(node, NODES):
            faults.append("L6" if isinstance(node, ast.stmt) else "L7")
        faults += name_faults(node, methods) + import_faults(node, modules) + def_faults(node)
        faults += statement_faults(node, docstring) + expression_faults(node)
    return faults


def own_values(trees):
    nodes = [node for tree in trees for node in ast.walk(tree)]
    return {node.attr for node in nodes if isinstance(node, ast.Attribute) and isinstance(node.ctx, ast.Store)}


def class_faults(methods, values):
    faults = ["L18"] if methods & values else []
    if (methods - DUNDERS - METHODS - {"add", "discard"}) & PYTHONS_OWN or (values - VALUES_FREE) & PYTHONS_OWN:
        faults.append("L26")
    return faults


def local_faults(tree):
    """Parameters and locals that are called like a class or an import of their file."""
    taken = {each.name for node in tree.body if isinstance(node, ast.ImportFrom) for each in node.names}
    taken |= {node.name for node in tree.body if isinstance(node, ast.ClassDef)}
    for top in tree.body:
        for node in ast.walk(top):
            if node is not top and not isinstance(node, ast.FunctionDef) and taken & set(bound_names(node)):
                return ["L15"]
    return []


def called(node):
    return node.func.id if isinstance(node, ast.Call) and isinstance(node.func, ast.Name) else None


def is_walked_here(node, parent):
    if isinstance(parent, (ast.For, ast.comprehension)):
        return parent.iter is node
    if isinstance(parent, ast.Call) and parent.args[:1] == [node]:
        joins = isinstance(parent.func, ast.Attribute) and parent.func.attr == "join"
        return called(parent) in WALKERS or (joins and isinstance(parent.func.value, ast.Constant))
    return False


def is_set_asked(node, parent):
    return isinstance(parent, (ast.Compare, ast.BinOp)) or called(parent) in ("sorted", "len")


def walking_faults(tree):
    faults = []
    for parent in ast.walk(tree):
        for node in ast.iter_child_nodes(parent):
            view = isinstance(node, ast.Call) and isinstance(node.func, ast.Attribute) and node.func.attr in VIEWS
            if (view or called(node) in WALKED) and not is_walked_here(node, parent):
                faults.append("L23")
            if (called(node) == "set" or isinstance(node, ast.Set)) and not is_set_asked(node, parent):
                faults.append("L24")
    return faults


def tops(tree):
    names = []
    for node in tree.body:
        if isinstance(node, (ast.FunctionDef, ast.ClassDef)):
            names.append(node.name)
        if isinstance(node, ast.Assign):
            names += [target.id for target in node.targets if isinstance(target, ast.Name)]
    return names


def drawn_from(tree):
    return [node.module for node in ast.walk(tree) if isinstance(node, ast.ImportFrom) and node.module]


def goes_round(module, draws):
    reached = []
    ahead = list(draws.get(module, []))
    while ahead:
        each = ahead.pop()
        if each not in reached:
            reached.append(each)
            ahead += draws.get(each, [])
    return module in reached


class PackageFiles(unittest.TestCase):
    def setUp(self):
        self.paths = [path for path in sorted(PACKAGE.iterdir()) if path.name != "__pycache__"]
        self.texts = {path.name: path.read_text(encoding="utf-8") for path in self.paths}
        self.trees = {name: ast.parse(text) for name, text in self.texts.items()}
        self.modules = {"meetbook." + name[:-3]: tops(tree) for name, tree in self.trees.items()}

    def test_the_files_are_there(self):
        for name in ("__init__.py", "errors.py", "seen.py", "hand.py", "hall.py", "story.py", "lines.py"):
            self.assertIn(name, self.texts)

    def test_each_file_keeps_to_the_rules(self):
        methods = own_methods(self.trees.values())
        for name, text in self.texts.items():
            with self.subTest(file=name):
                self.assertEqual(file_faults(name), [])
                self.assertEqual(text_faults(text), [])
                self.assertEqual(tree_faults(self.trees[name], self.modules, methods), [])

    def test_methods_and_values_of_objects(self):
        trees = self.trees.values()
        self.assertEqual(class_faults(own_methods(trees), own_values(trees)), [])

    def test_each_name_is_bound_once_at_the_top(self):
        for module, names in self.modules.items():
            with self.subTest(module=module):
                self.assertEqual(len(names), len(set(names)))

    def test_no_two_files_draw_from_one_another(self):
        draws = {"meetbook." + name[:-3]: drawn_from(tree) for name, tree in self.trees.items()}
        for module in draws:
            with self.subTest(module=module):
                self.assertFalse(goes_round(module, draws))


class TheCheckItself(unittest.TestCase):
    """A check that finds no fault in faulty rows would let everything pass."""

    FAULTY = (
        ("L2", "from time import monotonic\n"),
        ("L2", "from .errors import MeetError\n"),
        ("L16", "import random\n"),
        ("L16", "from meetbook.errors import Missing\n"),
        ("L3", "for k in range(3):\n    pass\n"),
        ("L4", "def f(*rows):\n    return rows\n"),
        ("L5", "class A(ValueError):\n    kind = 1\n"),
        ("L6", "def f(a):\n    assert a\n"),
        ("L6", "def f(a):\n    with a:\n        pass\n"),
        ("L6", "def f(a):\n    'words'\n"),
        ("L6", "def f():\n    a = b = 1\n    return a + b\n"),
        ("L7", "def f(a):\n    return a / 2\n"),
        ("L7", "def f(a):\n    return 0.5\n"),
        ("L7", "def f(a):\n    return all(x for x in a)\n"),
        ("L7", "def f(a):\n    return {x: 1 for x in a}\n"),
        ("L7", "def f(a):\n    return [x for row in a for x in row]\n"),
        ("L8", "def f(a):\n    return open(a)\n"),
        ("L8", "def f(a):\n    return hash(a)\n"),
        ("L12", "def f(a):\n    for _ in a:\n        pass\n"),
        ("L15", "def f(next):\n    return next\n"),
        ("L15", "from meetbook.errors import MeetError\n\n\ndef f(MeetError):\n    return MeetError\n"),
        ("L15", "class A:\n    pass\n\n\ndef f():\n    A = 1\n    return A\n"),
        ("L23", "def f(a):\n    b = zip(a, a)\n    return b\n"),
        ("L23", "def f(a):\n    return a.items()\n"),
        ("L23", "def f(a):\n    return len(a.values())\n"),
        ("L24", "def f(a):\n    b = set(a)\n    return b\n"),
        ("L24", "def f(a):\n    return [x for x in set(a)]\n"),
        ("L17", "def f(id):\n    return id\n"),
        ("L19", "def f(a):\n    try:\n        return a[0]\n    except:\n        return 0\n"),
        ("L20", "def f(a, b):\n    return a is b\n"),
        ("L25", "def f(a):\n    a.sort()\n"),
        ("L27", "def f(a):\n    return '%'\n"),
    )

    def test_each_fault_is_found(self):
        for rule, text in self.FAULTY:
            with self.subTest(text=text):
                self.assertIn(rule, tree_faults(ast.parse(text), {"meetbook.errors": ["MeetError"]}, set()))

    def test_faults_of_texts_and_files(self):
        self.assertEqual(text_faults("a = 1\n"), [])
        self.assertEqual(text_faults("# a\tb\n"), ["L14"])
        self.assertEqual(text_faults("# \u00e9\n"), ["L14"])
        self.assertEqual(text_faults("#" * 121), ["L10"])
        self.assertEqual(text_faults("#\n" * 401), ["L10"])
        self.assertEqual(text_faults("# of the type\n"), ["L17"])
        self.assertEqual(file_faults("notes.txt"), ["L1"])
        self.assertEqual(file_faults("Seen.py"), ["L1"])
        self.assertEqual(file_faults("filter.py"), ["L14"])

    def test_faults_of_methods_and_values(self):
        self.assertEqual(class_faults({"__init__", "put", "get"}, {"kept", "count"}), [])
        self.assertEqual(class_faults({"seen"}, {"seen"}), ["L18"])
        self.assertEqual(class_faults({"swapcase"}, set()), ["L26"])
        self.assertEqual(class_faults(set(), {"items"}), ["L26"])

    def test_drawing_round_is_found(self):
        self.assertTrue(goes_round("a", {"a": ["b"], "b": ["c"], "c": ["a"]}))
        self.assertFalse(goes_round("a", {"a": ["b", "c"], "b": ["c"], "c": []}))


if __name__ == "__main__":
    unittest.main()
