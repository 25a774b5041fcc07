"""The form of the package's files: the small part of Python that they keep to."""

import ast
import builtins
import pathlib
import re
import unittest

PACKAGE = pathlib.Path(__file__).resolve().parent.parent / "marchmend"

STATEMENTS = (ast.FunctionDef, ast.ClassDef, ast.ImportFrom, ast.Assign, ast.AugAssign, ast.If, ast.While, ast.For,
              ast.Return, ast.Break, ast.Continue, ast.Pass, ast.Raise, ast.Try, ast.Expr)
EXPRESSIONS = (ast.Constant, ast.List, ast.Tuple, ast.Dict, ast.Set, ast.BinOp, ast.UnaryOp, ast.BoolOp, ast.Compare,
               ast.IfExp, ast.Call, ast.Attribute, ast.Subscript, ast.Slice, ast.Name, ast.ListComp, ast.JoinedStr,
               ast.FormattedValue, ast.Lambda)
BUILT_IN = """len range enumerate zip min max sum abs sorted reversed int str bool list tuple dict set frozenset
    isinstance ord repr any all divmod Exception ValueError TypeError KeyError IndexError LookupError
    ZeroDivisionError ArithmeticError OverflowError RuntimeError NotImplementedError AttributeError
    StopIteration""".split()
METHODS = """append clear copy count endswith extend find get index insert isalnum isalpha isdigit islower isspace
    isupper items join keys ljust lower lstrip partition pop remove replace reverse rfind rjust rpartition rsplit
    rstrip setdefault split splitlines startswith strip update upper values zfill bit_length""".split()
DUNDERS = ("__init__", "__eq__", "__repr__", "__str__", "__len__")
NEVER = ("register", "mro", "elements", "open", "input", "version_info", "with_traceback", "add_note")
NOT_AS_NAMES = """attrgetter breakpoint builtins compile copyright credits delattr dir eval exec exit gc getattr globals
    hasattr help id importlib license locals methodcaller os quit setattr super type vars sys __name__""".split()
KEYWORDS = {"sorted": ("key", "reverse"), "min": ("key", "default"), "max": ("key", "default"), "sum": ("start",),
            "enumerate": ("start",), "zip": ("strict",)}
CHANGING = "append clear extend insert pop remove reverse setdefault update".split()
OWN = [name for sort in (str, int, list, dict, set, bytes) for name in dir(sort)] + ["args"]
WORDS = re.compile(r"\b(type|typing|typing_extensions|enum|Enum|IntEnum|StrEnum|Flag|IntFlag|Generic|Protocol|ABC"
                   r"|ABCMeta|namedtuple|NamedTuple|TypedDict|TYPE_CHECKING|abstractmethod)\b"
                   r"|dataclass|overload|contextmanager")


def faults_of_text(text):
    faults = []
    rows = text.split("\n")
    if len(rows) > 401:
        faults.append("more than 400 lines")
    for number, row in enumerate(rows, start=1):
        if len(row) > 120:
            faults.append(f"{number}: too long")
        if not all(" " <= sign <= "~" for sign in row):
            faults.append(f"{number}: a sign that is not let in")
        if WORDS.search(row):
            faults.append(f"{number}: a word that is not let in")
    return faults


def fault_of_top(node):
    if isinstance(node, ast.Assign):
        return not isinstance(node.targets[0], ast.Name)
    if isinstance(node, ast.Expr):
        return not isinstance(node.value, ast.Constant)
    return not isinstance(node, (ast.ImportFrom, ast.FunctionDef, ast.ClassDef))


def fault_of_def(node):
    given = node.args
    return (bool(node.decorator_list or given.vararg or given.kwarg or given.kwonlyargs or given.posonlyargs)
            or node.end_lineno - node.lineno + 1 > 40)


def fault_of_class(node):
    return (bool(node.decorator_list or node.keywords) or len(node.bases) > 1
            or not all(isinstance(part, (ast.FunctionDef, ast.Pass)) for part in node.body))


def fault_of_import(node):
    module = node.module or ""
    own = node.level == 0 and module.startswith("marchmend.")
    return not own or any(name.name == "*" or name.asname for name in node.names)


def fault_of_is(node):
    asked = any(isinstance(sign, (ast.Is, ast.IsNot)) for sign in node.ops)
    return asked and not any(isinstance(side, ast.Constant) and side.value in (None, True, False)
                             for side in [node.left] + node.comparators)


def fault_of_constant(node):
    return isinstance(node.value, (float, complex, bytes)) or isinstance(node.value, str) and "%" in node.value


def fault_of_other(node):
    if isinstance(node, ast.Assign):
        return len(node.targets) != 1 or isinstance(node.targets[0], (ast.Tuple, ast.List))
    if isinstance(node, (ast.For, ast.While)):
        return bool(node.orelse)
    if isinstance(node, ast.Try):
        return bool(node.finalbody) or any(part.type is None for part in node.handlers)
    if isinstance(node, ast.ListComp):
        return len(node.generators) != 1 or len(node.generators[0].ifs) > 1
    if isinstance(node, ast.BinOp):
        return (isinstance(node.op, (ast.Div, ast.MatMult))
                or isinstance(node.op, ast.Pow) and not isinstance(node.right, ast.Constant))
    if isinstance(node, ast.Name):
        return node.id in NOT_AS_NAMES
    if isinstance(node, ast.Set):
        return len(node.elts) > 2
    if isinstance(node, (ast.arg, ast.FunctionDef)):
        return bool(getattr(node, "annotation", None) or getattr(node, "returns", None))
    return False


CHECKS = ((ast.FunctionDef, fault_of_def), (ast.ClassDef, fault_of_class), (ast.ImportFrom, fault_of_import),
          (ast.Compare, fault_of_is), (ast.Constant, fault_of_constant), (ast.AST, fault_of_other))


def bound_in(tree):
    names = []
    for node in ast.walk(tree):
        if isinstance(node, (ast.FunctionDef, ast.ClassDef)):
            names.append(node.name)
        if isinstance(node, ast.arg):
            names.append(node.arg)
        if isinstance(node, ast.Name) and isinstance(node.ctx, ast.Store):
            names.append(node.id)
        if isinstance(node, ast.Attribute) and isinstance(node.ctx, ast.Store):
            names.append(node.attr)
        if isinstance(node, ast.ExceptHandler) and node.name:
            names.append(node.name)
    return names


def faults_of_names(tree, methods):
    faults = []
    for name in bound_in(tree):
        if name not in DUNDERS and (not re.fullmatch("[A-Za-z][A-Za-z0-9_]*", name) or name in NEVER):
            faults.append(f"{name}: no plain name")
    for node in ast.walk(tree):
        if isinstance(node, ast.Name) and node.id in dir(builtins) and node.id not in BUILT_IN:
            faults.append(f"{node.lineno}: {node.id}")
        if isinstance(node, ast.Call) and isinstance(node.func, ast.Attribute):
            if node.func.attr not in METHODS + methods + ["__init__"]:
                faults.append(f"{node.lineno}: .{node.func.attr}()")
    tops = [node.name for node in tree.body if isinstance(node, (ast.FunctionDef, ast.ClassDef))]
    tops += [node.targets[0].id for node in tree.body if isinstance(node, ast.Assign)]
    if len(tops) != len(set(tops)):
        faults.append("a name bound twice at the top")
    return faults


def called(node, names):
    return isinstance(node, ast.Call) and isinstance(node.func, ast.Name) and node.func.id in names


def faults_of_walks(tree):
    """What is to be walked on the spot, and sets, that stand elsewhere."""
    walked, asked = [], []
    for node in ast.walk(tree):
        if isinstance(node, (ast.For, ast.comprehension)):
            walked.append(node.iter)
        if called(node, "list tuple dict sorted sum any all enumerate zip min max".split()):
            walked += node.args if called(node, ["enumerate", "zip"]) else node.args[:1]
        if called(node, ["sorted", "len"]):
            asked += node.args
        if isinstance(node, ast.Compare):
            asked += [node.left] + node.comparators
    asked += [side for node in asked if isinstance(node, ast.BinOp) for side in (node.left, node.right)]
    return ([f"{node.lineno}: kept, not walked" for node in ast.walk(tree)
             if called(node, ["zip", "enumerate", "reversed", "range"]) and node not in walked]
            + [f"{node.lineno}: a set that is kept" for node in ast.walk(tree)
               if (called(node, ["set", "frozenset"]) or isinstance(node, ast.Set)) and node not in asked])


def faults_of_shared(tree):
    """Lists and dicts of a file's top that are handed on."""
    tops = [node.targets[0].id for node in tree.body
            if isinstance(node, ast.Assign) and isinstance(node.value, (ast.List, ast.Dict))]
    read = []
    for node in ast.walk(tree):
        if isinstance(node, (ast.Subscript, ast.Attribute)) and isinstance(node.ctx, ast.Load):
            read.append(node.value)
        if isinstance(node, (ast.For, ast.comprehension)):
            read.append(node.iter)
        if isinstance(node, ast.Compare):
            read += node.comparators
        if called(node, "len list tuple dict sorted enumerate zip".split()):
            read += node.args
    return [f"{node.lineno}: {node.id} is handed on" for node in ast.walk(tree)
            if isinstance(node, ast.Name) and node.id in tops and isinstance(node.ctx, ast.Load) and node not in read]


def faults_of_meanings(tree):
    """Parameters and locals that are called like something else."""
    taken = [name.name for node in tree.body if isinstance(node, ast.ImportFrom) for name in node.names]
    taken += [node.name for node in tree.body if isinstance(node, ast.ClassDef)] + dir(builtins)
    faults = []
    for node in ast.walk(tree):
        if isinstance(node, ast.arg) and node.arg in taken:
            faults.append(f"{node.lineno}: {node.arg} means something else")
        if isinstance(node, ast.Name) and isinstance(node.ctx, ast.Store) and node.id in taken:
            faults.append(f"{node.lineno}: {node.id} means something else")
    return faults


def faults_of_views(tree):
    """What a dict tells of itself, kept and not walked."""
    walked = []
    for node in ast.walk(tree):
        if isinstance(node, (ast.For, ast.comprehension)):
            walked.append(node.iter)
        if called(node, "list tuple dict sorted sum any all enumerate zip min max".split()):
            walked += node.args[:1]
    return [f"{node.lineno}: kept, not walked" for node in ast.walk(tree)
            if isinstance(node, ast.Call) and isinstance(node.func, ast.Attribute)
            and node.func.attr in ("items", "keys", "values") and node not in walked]


def faults_of_keywords(tree):
    return [f"{node.lineno}: a keyword" for node in ast.walk(tree) if isinstance(node, ast.Call)
            for part in node.keywords if not isinstance(node.func, ast.Name)
            or part.arg not in KEYWORDS.get(node.func.id, ())]


def faults_of_tops(tree):
    """Lists and dicts within such at a file's top, and defs or values that are called as none may be."""
    faults = [f"{node.lineno}: a list within" for node in tree.body if isinstance(node, ast.Assign)
              and isinstance(node.value, (ast.List, ast.Dict))
              and any(isinstance(part, (ast.List, ast.Dict)) for part in ast.walk(node.value) if part is not node.value)]
    faults += [f"{node.lineno}: .{node.attr}" for node in ast.walk(tree) if isinstance(node, ast.Attribute)
               and isinstance(node.ctx, ast.Store) and node.attr in OWN]
    rows = [node.lineno for node in ast.walk(tree) if isinstance(node, ast.Lambda)]
    return faults + [f"{row}: two lambdas" for row in rows if rows.count(row) > 1]


def faults_of_changes(tree):
    """What a loop walks, changed in it."""
    faults = []
    for loop in ast.walk(tree):
        if isinstance(loop, ast.For):
            walked = loop.iter
            if isinstance(walked, ast.Call) and called(walked, ["enumerate", "zip", "reversed"]):
                walked = walked.args[0]
            elif isinstance(walked, ast.Call) and isinstance(walked.func, ast.Attribute):
                walked = walked.func.value
            for node in [part for row in loop.body for part in ast.walk(row)]:
                if isinstance(node, ast.Call) and isinstance(node.func, ast.Attribute) and node.func.attr in CHANGING:
                    changed = node.func.value
                elif isinstance(node, ast.Subscript) and isinstance(node.ctx, ast.Store):
                    changed = node.value
                else:
                    continue
                if ast.dump(changed) == ast.dump(walked):
                    faults.append(f"{node.lineno}: changed as it is walked")
    return faults


def drawn_from(tree):
    return [node.module.split(".")[-1] + ".py" for node in ast.walk(tree) if isinstance(node, ast.ImportFrom)]


def defined_in(tree):
    return ([node.name for node in tree.body if isinstance(node, (ast.FunctionDef, ast.ClassDef))]
            + [node.targets[0].id for node in tree.body if isinstance(node, ast.Assign)])


def own_methods(tree):
    return [part.name for node in ast.walk(tree) if isinstance(node, ast.ClassDef)
            for part in node.body if isinstance(part, ast.FunctionDef)]


def faults_of(text, methods=()):
    faults = faults_of_text(text)
    tree = ast.parse(text)
    faults += [f"{node.lineno}: not at a file's top" for node in tree.body if fault_of_top(node)]
    for node in ast.walk(tree):
        place = getattr(node, "lineno", None)
        if isinstance(node, ast.stmt) and not isinstance(node, STATEMENTS):
            faults.append(f"{place}: {node.__class__.__name__}")
        if isinstance(node, ast.expr) and not isinstance(node, EXPRESSIONS):
            faults.append(f"{place}: {node.__class__.__name__}")
        for kind, check in CHECKS:
            if isinstance(node, kind) and check(node):
                faults.append(f"{place}: {check.__name__} of {node.__class__.__name__}")
    faults += faults_of_walks(tree) + faults_of_shared(tree) + faults_of_meanings(tree) + faults_of_views(tree)
    faults += faults_of_keywords(tree) + faults_of_tops(tree) + faults_of_changes(tree)
    return faults + faults_of_names(tree, list(methods) + own_methods(tree))


class Form(unittest.TestCase):
    def test_the_folder_holds_plain_files_alone(self):
        found = [path for path in PACKAGE.iterdir() if path.name != "__pycache__"]
        self.assertIn(PACKAGE / "__init__.py", found)
        for path in found:
            self.assertTrue(path.is_file())
            self.assertRegex(path.name, r"\A(__init__|__main__|[a-z][a-z0-9_]*)\.py\Z")

    def test_each_file_keeps_to_the_form(self):
        texts = {path.name: path.read_bytes().decode("ascii") for path in PACKAGE.glob("*.py")}
        methods = [name for text in texts.values() for name in own_methods(ast.parse(text))]
        for name, text in sorted(texts.items()):
            with self.subTest(name):
                self.assertEqual([], faults_of(text, methods))

    def test_names_are_drawn_from_the_file_that_defines_them_and_never_in_a_ring(self):
        trees = {path.name: ast.parse(path.read_text()) for path in PACKAGE.glob("*.py")}
        for name, tree in trees.items():
            for node in tree.body:
                if isinstance(node, ast.ImportFrom):
                    source = trees[node.module.split(".")[-1] + ".py"]
                    self.assertLessEqual({drawn.name for drawn in node.names}, set(defined_in(source)), name)
        left = dict(trees)
        while left:
            free = [name for name, tree in left.items() if not set(drawn_from(tree)) & set(left)]
            self.assertTrue(free, f"a ring among {sorted(left)}")
            left = {name: tree for name, tree in left.items() if name not in free}

    def test_no_name_is_a_method_and_a_value(self):
        trees = [ast.parse(path.read_text()) for path in PACKAGE.glob("*.py")]
        methods = {name for tree in trees for name in own_methods(tree)}
        values = {node.attr for tree in trees for node in ast.walk(tree)
                  if isinstance(node, ast.Attribute) and isinstance(node.ctx, ast.Store)}
        self.assertEqual(set(), methods & values)

    def test_what_is_outside_the_form_is_seen(self):
        outside = ["import os", "from os import path", "from marchmend.errors import *", "x = 1.5", "x = b''",
                   "x = 1\nx = 2", "print(1)", "x = open", "# some type", "x = '\t'", "def f(*a):\n    pass",
                   "def f(a: int):\n    pass", "def f():\n    assert True", "def f():\n    yield 1",
                   "def f(a):\n    return a / 2", "def f(a):\n    return {b for b in a}", "class A:\n    x = 1",
                   "def f(a):\n    return a is 5", "def f(a):\n    a.sort()", "def f(_a):\n    pass",
                   "def f(a):\n    a.elements = 1", "def f(a):\n    b = c = a", "x = 1 # " + "x" * 120,
                   "def f():\n" + "    pass\n" * 40, "x = '%'", "def f():\n    while True:\n        pass\n    else:\n"
                   "        pass", "def f():\n    try:\n        pass\n    except:\n        pass", "x = (y := 1)",
                   "def f(a):\n    b = zip(a, a)", "def f(a):\n    b = set(a)", "def f(a):\n    for b in set(a):\n"
                   "        pass", "def f(a):\n    return range(a)", "def f(a):\n    sum = a", "def f(min):\n    pass",
                   "x = {1: 2}\ndef f(a):\n    return a(x)", "x = [1]\ndef f():\n    return x",
                   "from marchmend.errors import NoTest\ndef f(NoTest):\n    pass", "def f(a):\n    b, c = a",
                   "def f(a):\n    b = a.items()", "def f(a):\n    return a.values()", "x = [[1]]", "x = {1: {2: 3}}",
                   "def f(a):\n    return 2 ** a", "def f(a):\n    return a(b=1)", "def f(a):\n    return a in {1, 2, 3}",
                   "def f(a):\n    a.values = 1", "def f(a):\n    return [lambda b: b, lambda b: b]", "def f(a):\n"
                   "    for b in a:\n        a.append(b)", "def f(a):\n    for b in list(a):\n        pass\n    for b in"
                   " enumerate(a):\n        a[0] = b", "def f(a):\n    return vars(a)",
                   "def f(a):\n    return sorted(a, b=1)"]
        for text in outside:
            with self.subTest(text):
                self.assertNotEqual([], faults_of(text))


if __name__ == "__main__":
    unittest.main()
