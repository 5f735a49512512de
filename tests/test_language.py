"""The package's files keep to the part of Python that they are to be written in, as far as a test can see it."""

import ast
import builtins
import pathlib
import re
import unittest

PACKAGE = pathlib.Path(__file__).resolve().parent.parent / "chiphouse"

ERRORS = """Exception ValueError TypeError KeyError IndexError LookupError ZeroDivisionError ArithmeticError
    OverflowError RuntimeError NotImplementedError AttributeError StopIteration""".split()
OWN_NAMES = """len range enumerate zip min max sum abs sorted reversed int str bool list tuple dict set frozenset
    isinstance ord repr any all divmod""".split() + ERRORS
METHODS = """append clear copy count endswith extend find get index insert isalnum isalpha isdigit islower isspace
    isupper items join keys ljust lower lstrip partition pop remove replace reverse rfind rjust rpartition rsplit
    rstrip setdefault split splitlines startswith strip update upper values zfill bit_length""".split()
VALUES_TOO = "count index title find get join lower upper split strip copy add".split()
UNUSED = """register mro elements open input version_info with_traceback add_note attrgetter breakpoint builtins
    compile copyright credits delattr dir eval exec exit gc getattr globals hasattr help id importlib license locals
    methodcaller os quit setattr super type vars sys format format_map""".split()
WORDS_OUT = re.compile(
    r"\b(type|typing|typing_extensions|enum|Enum|IntEnum|StrEnum|Flag|IntFlag|Generic|Protocol|ABC|ABCMeta"
    r"|namedtuple|NamedTuple|TypedDict|TYPE_CHECKING|abstractmethod)\b|dataclass|overload|contextmanager"
)
FILES_OUT = ["test", "tests", "testing", "site", "conftest", "sitecustomize", "usercustomize", "enum", "typing"]
NODES_OUT = (
    ast.With, ast.Match, ast.Delete, ast.Global, ast.Nonlocal, ast.Assert, ast.Yield, ast.YieldFrom, ast.Await,
    ast.AsyncFunctionDef, ast.AsyncFor, ast.AsyncWith, ast.SetComp, ast.DictComp, ast.GeneratorExp, ast.NamedExpr,
    ast.Starred, ast.Div, ast.MatMult, ast.Import, ast.AnnAssign,
)
CHANGES = ["append", "clear", "extend", "insert", "pop", "remove", "reverse", "setdefault", "update"]
WALKED = ["zip", "enumerate", "reversed", "range", "items", "keys", "values"]
WALKERS = ["list", "tuple", "dict", "sorted", "sum", "any", "all", "enumerate", "zip", "min", "max"]
DUNDERS = ["__init__", "__eq__", "__repr__", "__str__", "__len__"]


def is_pythons_own(name):
    return name in vars(builtins)


def is_none_or_truth(node):
    return isinstance(node, ast.Constant) and (node.value is None or isinstance(node.value, bool))


def faults_of_text(text):
    if re.search(r"[^ -~\n]", text):
        yield "L14 sign"
    if WORDS_OUT.search(text):
        yield "L17 word"
    lines = text.split("\n")
    if len(lines) - 1 > 400 or max(len(line) for line in lines) > 120:
        yield "L10 size"


def is_plain(node, functions):
    if isinstance(node, (ast.List, ast.Tuple)):
        return all(is_plain(part, functions) for part in node.elts)
    if isinstance(node, ast.Dict):
        return all(part is not None and is_plain(part, functions) for part in node.keys + node.values)
    if isinstance(node, ast.UnaryOp) and isinstance(node.op, ast.USub):
        return is_plain(node.operand, functions)
    if isinstance(node, ast.Name):
        return node.id in functions
    return isinstance(node, ast.Constant) and isinstance(node.value, (int, str, bool, type(None)))


def holds_what_can_change(node):
    """A list or dict that stands within the value of a name of the top."""
    inner = [part for part in ast.walk(node) if part is not node]
    return any(isinstance(part, (ast.List, ast.Dict)) for part in inner)


def is_docstring(node):
    return isinstance(node, ast.Expr) and isinstance(node.value, ast.Constant) and isinstance(node.value.value, str)


def faults_of_top(tree):
    bound = []
    functions = []
    for place, node in enumerate(tree.body):
        if isinstance(node, ast.ImportFrom):
            bound += [part.asname or part.name for part in node.names]
        elif isinstance(node, ast.FunctionDef):
            functions.append(node.name)
            bound.append(node.name)
        elif isinstance(node, ast.ClassDef):
            bound.append(node.name)
        elif isinstance(node, ast.Assign) and isinstance(node.targets[0], ast.Name):
            bound.append(node.targets[0].id)
            if not is_plain(node.value, functions):
                yield "L3 value at the top"
            if holds_what_can_change(node.value):
                yield "L15 list or dict within a value at the top"
        elif not (place == 0 and is_docstring(node)):
            yield "L3 statement at the top"
    if len(set(bound)) != len(bound):
        yield "L15 name bound twice"


def faults_of_function(node, taken):
    rest = node.args
    if rest.vararg or rest.kwarg or rest.kwonlyargs or rest.posonlyargs or node.decorator_list:
        yield "L4 parameters or decorator"
    if node.end_lineno - node.lineno + 1 > 40:
        yield "L10 function size"
    if node.returns or any(part.annotation for part in rest.args):
        yield "L21 annotation"
    stored = [part.id for part in ast.walk(node) if isinstance(part, ast.Name) and isinstance(part.ctx, ast.Store)]
    for name in stored + [part.arg for part in rest.args]:
        if name in taken or is_pythons_own(name):
            yield f"L15 local name {name}"


def faults_of_class(node):
    if len(node.bases) > 1 or node.keywords or node.decorator_list:
        yield "L5 class"
    for part in node.body:
        if not isinstance(part, ast.FunctionDef) and not is_docstring(part):
            yield "L5 class body"


def faults_of_name(name):
    dunder = name in DUNDERS
    if not dunder and not re.fullmatch(r"[A-Za-z][A-Za-z0-9_]*", name):
        yield f"L12 name {name}"
    if name in UNUSED:
        yield f"L17 name {name}"


def names_in(node):
    if isinstance(node, ast.Name):
        return [node.id]
    if isinstance(node, ast.Attribute):
        return [node.attr]
    if isinstance(node, (ast.FunctionDef, ast.ClassDef)):
        return [node.name]
    if isinstance(node, ast.arg):
        return [node.arg]
    return []


def faults_of_node(node):
    if isinstance(node, NODES_OUT):
        yield f"L6, L7 {node.__class__.__name__}"
    if isinstance(node, ast.Assign) and len(node.targets) > 1:
        yield "L6 two targets"
    if isinstance(node, (ast.For, ast.While)) and node.orelse:
        yield "L6 else behind a loop"
    if isinstance(node, ast.Try) and node.finalbody:
        yield "L6 finally"
    if isinstance(node, ast.Constant) and isinstance(node.value, (float, bytes, complex)):
        yield "L7 value"
    if isinstance(node, ast.Constant) and isinstance(node.value, str) and "%" in node.value:
        yield "L27 sign in a text"
    if isinstance(node, ast.BinOp) and isinstance(node.op, ast.Pow) and not isinstance(node.right, ast.Constant):
        yield "L27 exponent"
    if isinstance(node, ast.Compare) and any(isinstance(op, (ast.Is, ast.IsNot)) for op in node.ops):
        if not all(is_none_or_truth(part) for part in node.comparators):
            yield "L20 is"
    if isinstance(node, ast.Name) and is_pythons_own(node.id) and node.id not in OWN_NAMES:
        yield f"L8 name {node.id}"
    for name in names_in(node):
        yield from faults_of_name(name)


def called_name(node):
    if isinstance(node, ast.Call) and isinstance(node.func, ast.Name):
        return node.func.id
    if isinstance(node, ast.Call) and isinstance(node.func, ast.Attribute):
        return node.func.attr
    return None


def faults_of_uses(tree):
    """Python's own names are called where they stand, and what only can be walked is walked there."""
    called, walked = [], []
    for node in ast.walk(tree):
        if isinstance(node, ast.Call):
            called.append(node.func)
            called += [part.value for part in node.keywords if part.arg == "key"]
            if called_name(node) == "isinstance":
                called += list(ast.walk(node.args[1]))
            if called_name(node) in WALKERS:
                walked += node.args
        if isinstance(node, (ast.For, ast.comprehension)):
            walked.append(node.iter)
        if isinstance(node, (ast.Raise, ast.ExceptHandler, ast.ClassDef)):
            called += list(ast.walk(node))
    for node in ast.walk(tree):
        if isinstance(node, ast.Name) and node.id in OWN_NAMES and node not in called:
            yield f"L22 {node.id} is not called"
        if called_name(node) in WALKED and node not in walked:
            yield f"L23 {called_name(node)} is not walked on the spot"
        if isinstance(node, ast.Set) or called_name(node) in ("set", "frozenset"):
            yield "L24 set"


def faults_of_walks(tree):
    """What a loop walks is not changed in it."""
    for node in ast.walk(tree):
        if not isinstance(node, ast.For):
            continue
        names = {part.id for part in ast.walk(node.iter) if isinstance(part, ast.Name)}
        for part in ast.walk(ast.Module(body=node.body, type_ignores=[])):
            if isinstance(part, ast.Attribute) and part.attr in CHANGES and isinstance(part.value, ast.Name):
                if part.value.id in names:
                    yield f"L23 {part.value.id} is changed while it is walked"


def methods_and_values(trees):
    methods = []
    values = []
    for tree in trees:
        for node in ast.walk(tree):
            if isinstance(node, ast.ClassDef):
                methods += [part.name for part in node.body if isinstance(part, ast.FunctionDef)]
            if isinstance(node, ast.Attribute) and isinstance(node.ctx, ast.Store):
                values.append(node.attr)
    return methods, values


def faults_of_attributes(trees):
    methods, values = methods_and_values(trees)
    kinds = (str, int, list, dict, set, bytes, tuple)
    for name in values:
        if name in methods:
            yield f"L18 method and value {name}"
        if any(hasattr(kind, name) for kind in kinds) and name not in VALUES_TOO:
            yield f"L26 value {name}"
    for name in methods:
        if any(hasattr(kind, name) for kind in kinds) and name not in METHODS + DUNDERS + ["add", "discard"]:
            yield f"L26 method {name}"
    for tree in trees:
        for node in ast.walk(tree):
            if isinstance(node, ast.Attribute) and node.attr not in methods + values + METHODS:
                yield f"L25 method {node.attr}"


def faults_of_file(text):
    tree = ast.parse(text)
    taken = [node.name for node in tree.body if isinstance(node, ast.ClassDef)]
    for node in tree.body:
        if isinstance(node, ast.ImportFrom):
            taken += [part.asname or part.name for part in node.names]
    found = list(faults_of_text(text)) + list(faults_of_top(tree))
    found += list(faults_of_uses(tree)) + list(faults_of_walks(tree))
    for node in ast.walk(tree):
        found += faults_of_node(node)
        if isinstance(node, ast.FunctionDef):
            found += faults_of_function(node, taken)
        if isinstance(node, ast.ClassDef):
            found += faults_of_class(node)
    return found + list(faults_of_attributes([tree]) if "import" not in text else [])


def drawn_from(tree):
    return [node for node in ast.walk(tree) if isinstance(node, ast.ImportFrom)]


def names_defined(tree):
    names = []
    for node in tree.body:
        if isinstance(node, (ast.FunctionDef, ast.ClassDef)):
            names.append(node.name)
        elif isinstance(node, ast.Assign):
            names.append(node.targets[0].id)
    return names


class ThePackage(unittest.TestCase):
    def setUp(self):
        self.texts = {path.stem: path.read_text(encoding="utf-8") for path in sorted(PACKAGE.glob("*.py"))}
        self.trees = {name: ast.parse(text) for name, text in self.texts.items()}

    def test_files(self):
        self.assertIn("__init__", self.texts)
        for path in PACKAGE.iterdir():
            if path.name == "__pycache__":
                continue
            self.assertRegex(path.name, r"^([a-z][a-z0-9_]*|__init__|__main__)\.py$")
            self.assertFalse(path.stem in FILES_OUT or is_pythons_own(path.stem), path.name)
            self.assertFalse(path.stem.startswith("test_"), path.name)

    def test_each_file(self):
        for name, text in self.texts.items():
            self.assertEqual(faults_of_file(text), [], name)

    def test_methods_and_values_of_the_whole(self):
        self.assertEqual(list(faults_of_attributes(list(self.trees.values()))), [])

    def test_imports_are_from_the_very_file(self):
        for name, tree in self.trees.items():
            for node in drawn_from(tree):
                self.assertEqual(node.level, 0, name)
                self.assertIn(node, tree.body, name)
                self.assertEqual(node.module.split(".")[0], "chiphouse", name)
                for part in node.names:
                    self.assertIn(part.name, names_defined(self.trees[node.module.split(".")[1]]), name)

    def test_no_two_files_draw_from_one_another(self):
        left = {name: {node.module.split(".")[1] for node in drawn_from(tree)} for name, tree in self.trees.items()}
        while left:
            free = [name for name, needs in left.items() if not needs & set(left)]
            self.assertTrue(free, left)
            left = {name: needs for name, needs in left.items() if name not in free}


class TheRules(unittest.TestCase):
    """Each of these must be found, else the tests above would see nothing."""

    def test_found(self):
        wrong = (
            "import sys\n", "x = len('a')\n", "x = 1\nx = 2\n", "def f(*a):\n    return a\n",
            "def f(a):\n    return a / 2\n", "def f(a):\n    return 1.5\n", "def f(a):\n    assert a\n",
            "def f(a):\n    del a[0]\n", "def f(a):\n    b = c = a\n    return b\n", "def f(id):\n    return 1\n",
            "def f(a):\n    return chr(a)\n", "def f(a):\n    return 2 ** a\n", "def f(a):\n    return a is 3\n",
            "def f(a):\n    return sum(b for b in a)\n", "def f(a):\n    a.sort()\n", "def f(a):\n\treturn a\n",
            "# the type of it\n", "def f(a: int):\n    return a\n", "def f(_a):\n    return 1\n",
            "class C:\n    x = 1\n", "def f(a):\n" + "    a = 1\n" * 40, "x = 1\n" + "#\n" * 400,
            "class C:\n    def __init__(self):\n        self.items = 1\n", "x = '" + "a" * 120 + "'\n",
            "def f(a):\n    for b in a:\n        pass\n    else:\n        pass\n", "def f(a):\n    return '%'\n",
            "X = {1: [2]}\n", "X = [[1]]\n", "def f(a):\n    b = zip(a, a)\n    return b\n",
            "def f(a):\n    b = len\n    return b(a)\n", "def f(a):\n    b = set(a)\n    return b\n",
            "def f(a):\n    for b in a:\n        a.append(b)\n", "def f(a):\n    return a.items()\n",
            "def f(a):\n    try:\n        pass\n    finally:\n        pass\n", "@f\ndef g(a):\n    return a\n",
        )
        for text in wrong:
            self.assertNotEqual(faults_of_file(text), [], text)

    def test_plain_code_is_let_through(self):
        self.assertEqual(faults_of_file("X = {1: (2, 'a')}\n\n\ndef f(a):\n    return [b for b in a if b in X]\n"), [])


if __name__ == "__main__":
    unittest.main()
