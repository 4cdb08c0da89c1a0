"""The package keeps to its small part of Python: each file against the rules L1 to L28, one by one.

The checks are somewhat narrower than the rules where the package needs no more: no list or dict stands
at a file's top, nothing is raised or taken, no set is written out, and there is no `__main__.py`.
"""

import ast
import builtins
import pathlib
import re
import textwrap
import unittest

PACKAGE = pathlib.Path(__file__).resolve().parent.parent / "onemoment"

OWN_CALLS = (
    "len range enumerate zip min max sum abs sorted reversed int str bool list tuple dict set frozenset "
    "isinstance ord repr any all divmod"
).split()
OWN_ERRORS = (
    "Exception ValueError TypeError KeyError IndexError LookupError ZeroDivisionError ArithmeticError "
    "OverflowError RuntimeError NotImplementedError AttributeError StopIteration"
).split()
OWN_METHODS = (
    "append clear copy count endswith extend find get index insert isalnum isalpha isdigit islower isspace "
    "isupper items join keys ljust lower lstrip partition pop remove replace reverse rfind rjust rpartition "
    "rsplit rstrip setdefault split splitlines startswith strip update upper values zfill bit_length"
).split()
CHANGING = "append clear extend insert pop remove reverse setdefault update".split()
STATEMENTS = (
    ast.Assign, ast.AugAssign, ast.If, ast.While, ast.For, ast.Return, ast.Break, ast.Continue, ast.Pass,
    ast.Expr, ast.FunctionDef, ast.ClassDef, ast.ImportFrom,
)
EXPRESSIONS = (
    ast.Call, ast.Name, ast.Attribute, ast.Subscript, ast.Slice, ast.Constant, ast.List, ast.Tuple, ast.Dict,
    ast.ListComp, ast.BinOp, ast.UnaryOp, ast.BoolOp, ast.Compare, ast.IfExp, ast.JoinedStr, ast.FormattedValue,
    ast.Lambda,
)
NO_WORDS = re.compile(
    r"\b(type|typing|typing_extensions|enum|Enum|IntEnum|StrEnum|Flag|IntFlag|Generic|Protocol|ABC|ABCMeta|"
    r"namedtuple|NamedTuple|TypedDict|TYPE_CHECKING|abstractmethod)\b|dataclass|overload|contextmanager"
)
NO_NAMES = (
    "attrgetter breakpoint builtins compile copyright credits delattr dir eval exec exit gc getattr globals "
    "hasattr help id importlib license locals methodcaller os quit setattr super type vars sys"
).split()
NOWHERE = "register mro elements open input version_info with_traceback add_note format format_map".split()
BUILT_IN = dir(builtins)
NO_FILES = "test tests testing site conftest sitecustomize usercustomize".split() + BUILT_IN
KEYWORDS = {
    "sorted": ("key", "reverse"), "min": ("key", "default"), "max": ("key", "default"), "sum": ("start",),
    "enumerate": ("start",), "zip": ("strict",),
}
AS_KEY = "len int str abs sum min max tuple".split()
WALKED = "zip enumerate reversed range".split()
WALKERS = "list tuple dict sorted sum any all enumerate zip min max".split()
# What a value of an object may be called, though Python's own values have it.
FREE_VALUES = "count index title find get join lower upper split strip copy add".split()
PYTHONS = {name for kind in (str, int, list, dict, set, bytes) for name in dir(kind)}


class File:
    """One file, with what stands above each part of it."""

    def __init__(self, name, text):
        self.name = name
        self.text = text
        self.tree = ast.parse(text)
        self.above = {}
        for node in ast.walk(self.tree):
            for inner in ast.iter_child_nodes(node):
                self.above[inner] = node
        self.nodes = list(ast.walk(self.tree))
        self.top = [name for statement in self.tree.body for name in names_bound_by(statement)]
        self.classes = [node.name for node in self.nodes if isinstance(node, ast.ClassDef)]
        self.imported = [alias.name for node in self.nodes if isinstance(node, ast.ImportFrom) for alias in node.names]

    def all(self, *kinds):
        return [node for node in self.nodes if isinstance(node, kinds)]


def names_bound_by(statement):
    if isinstance(statement, (ast.FunctionDef, ast.ClassDef)):
        return [statement.name]
    if isinstance(statement, ast.ImportFrom):
        return [alias.asname or alias.name for alias in statement.names]
    return [node.id for node in ast.walk(statement) if isinstance(node, ast.Name) and isinstance(node.ctx, ast.Store)]


def called(node):
    """The name that a call calls, None if it calls something else."""
    return node.func.id if isinstance(node, ast.Call) and isinstance(node.func, ast.Name) else None


def files_and_names(file):
    if not re.fullmatch(r"([a-z][a-z0-9_]*|__init__)\.py", file.name):
        yield "L1", 0
    if file.name[:-3] in NO_FILES or file.name.startswith("test_") or NO_WORDS.search(file.name[:-3]):
        yield "L14", 0


def size_and_signs(file):
    lines = file.text.split("\n")
    if len(file.text.splitlines()) > 400:
        yield "L10", 401
    for number, line in enumerate(lines, start=1):
        if len(line) > 120 or "\t" in line:
            yield "L10", number
        if not re.fullmatch("[ -~]*", line):
            yield "L14", number
        if NO_WORDS.search(line):
            yield "L17", number
        if re.search(r"\\[^nt\\'\"]", line) or re.search("[0-9]{901}", line):
            yield "L27", number
    for node in file.all(ast.FunctionDef):
        if node.end_lineno - node.lineno + 1 > 40:
            yield "L10", node.lineno


def is_plain(node, functions):
    if isinstance(node, ast.UnaryOp):
        return isinstance(node.op, ast.USub) and isinstance(node.operand, ast.Constant)
    if isinstance(node, ast.Tuple):
        return all(is_plain(inner, functions) for inner in node.elts)
    return isinstance(node, ast.Constant) or (isinstance(node, ast.Name) and node.id in functions)


def top_of_the_file(file):
    functions = []
    behind_imports = False
    for place, statement in enumerate(file.tree.body):
        line = statement.lineno
        if isinstance(statement, ast.ImportFrom):
            if behind_imports:
                yield "L2", line
        elif isinstance(statement, ast.Expr):
            if place != 0 or not isinstance(statement.value, ast.Constant):
                yield "L3", line
        else:
            behind_imports = True
            if isinstance(statement, ast.FunctionDef):
                functions.append(statement.name)
            elif isinstance(statement, ast.Assign):
                if isinstance(statement.value, (ast.List, ast.Dict)):
                    yield "L15", line
                elif not is_plain(statement.value, functions):
                    yield "L3", line
            elif not isinstance(statement, ast.ClassDef):
                yield "L3", line
    for name in file.top:
        if file.top.count(name) > 1:
            yield "L15", 0
    for node in file.all(ast.ClassDef, ast.ImportFrom):
        if file.above[node] != file.tree:
            yield "L15" if isinstance(node, ast.ClassDef) else "L2", node.lineno


def functions_and_classes(file):
    for node in file.all(ast.FunctionDef, ast.Lambda):
        given = node.args
        if given.vararg or given.kwarg or given.kwonlyargs or given.posonlyargs:
            yield "L4", node.lineno
        if not all(isinstance(default, ast.Constant) for default in given.defaults):
            yield "L4", node.lineno
        if any(one.annotation for one in given.args):
            yield "L21", node.lineno
    for node in file.all(ast.FunctionDef):
        if node.decorator_list:
            yield "L4", node.lineno
        if node.returns:
            yield "L21", node.lineno
    for node in file.all(ast.ClassDef):
        names = [inner.name for inner in node.body if isinstance(inner, ast.FunctionDef)]
        if node.decorator_list or node.keywords or len(node.bases) > 1 or len(names) != len(node.body):
            yield "L5", node.lineno
        if len(set(names)) != len(names):
            yield "L18", node.lineno
        for inner in node.body:
            if isinstance(inner, ast.FunctionDef) and inner.name.startswith("__"):
                if inner.name != "__init__" or any(isinstance(part, ast.Return) for part in ast.walk(inner)):
                    yield "L28", inner.lineno


def statements(file):
    for node in file.all(ast.stmt):
        if isinstance(node, (ast.Raise, ast.Try)):
            yield "L19", node.lineno
        elif isinstance(node, ast.AnnAssign):
            yield "L21", node.lineno
        elif isinstance(node, ast.Import):
            yield "L16", node.lineno
        elif not isinstance(node, STATEMENTS):
            yield "L6", node.lineno
        if isinstance(node, ast.Assign):
            if len(node.targets) > 1 or not isinstance(node.targets[0], (ast.Name, ast.Attribute, ast.Subscript)):
                yield "L6", node.lineno
        if isinstance(node, (ast.For, ast.While)) and node.orelse:
            yield "L6", node.lineno
        if isinstance(node, ast.Expr) and not isinstance(node.value, ast.Call) and node != file.tree.body[0]:
            yield "L6", node.lineno


def expressions(file):
    for node in file.all(ast.expr):
        if not isinstance(node, EXPRESSIONS):
            yield "L13" if isinstance(node, ast.Set) else "L7", node.lineno
        if isinstance(node, ast.BinOp) and isinstance(node.op, (ast.Div, ast.MatMult)):
            yield "L7", node.lineno
        if isinstance(node, ast.ListComp):
            if len(node.generators) > 1 or len(node.generators[0].ifs) > 1:
                yield "L7", node.lineno
        if isinstance(node, ast.Constant):
            if not isinstance(node.value, (int, str, type(None))):
                yield "L7", node.lineno
            if isinstance(node.value, str) and "%" in node.value:
                yield "L27", node.lineno
        if isinstance(node, ast.FormattedValue):
            if not isinstance(node.value, ast.Name) or node.format_spec or node.conversion not in (-1, ord("r")):
                yield "L7", node.lineno
        if isinstance(node, ast.Compare) and any(isinstance(op, (ast.Is, ast.IsNot)) for op in node.ops):
            if not any(isinstance(part, ast.Constant) and part.value in (None, True, False)
                       for part in [node.left, *node.comparators]):
                yield "L20", node.lineno
    for node in file.all(ast.BinOp, ast.AugAssign):
        power = node.right if isinstance(node, ast.BinOp) else node.value
        if isinstance(node.op, ast.Pow) and not (isinstance(power, ast.Constant) and 0 <= power.value <= 64):
            yield "L27", node.lineno
    lambdas = [(node.lineno, ast.dump(node.args)) for node in file.all(ast.Lambda)]
    if len(set(lambdas)) != len(lambdas):
        yield "L13", 0


def names(file):
    local = [(node.id, node.lineno) for node in file.all(ast.Name) if isinstance(node.ctx, ast.Store)]
    local += [(node.arg, node.lineno) for node in file.all(ast.arg)]
    bound = {name for name, _ in local} | set(file.top)
    bound |= {node.name for node in file.all(ast.FunctionDef)}
    for name in bound:
        if not re.fullmatch("[A-Za-z][A-Za-z0-9_]*|__init__", name):
            yield "L12", 0
        if name in BUILT_IN:
            yield "L8", 0
    for name, line in local:
        if name in file.classes or name in file.imported or name in BUILT_IN:
            yield "L15", line
    for node in file.all(ast.Name):
        if node.id in NO_NAMES or node.id in NOWHERE:
            yield "L17", node.lineno
        if node.id not in bound and node.id not in OWN_CALLS + OWN_ERRORS:
            yield ("L9" if node.id == "print" else "L27" if node.id == "chr" else "L8"), node.lineno
    for name in bound & set(NOWHERE + NO_NAMES):
        yield "L17", 0
    for node in file.all(ast.Attribute):
        if not re.fullmatch("[A-Za-z][A-Za-z0-9_]*", node.attr):
            yield "L12", node.lineno
        if node.attr in NOWHERE:
            yield "L17", node.lineno


def python_s_own_as_called(file):
    for node in file.all(ast.Name):
        up = file.above[node]
        if node.id in OWN_CALLS and not (isinstance(up, ast.Call) and up.func == node):
            is_key = isinstance(up, ast.keyword) and up.arg == "key" and node.id in AS_KEY
            if not is_key and called(up) != "isinstance":
                yield "L22", node.lineno
        if node.id in file.classes or node.id in OWN_ERRORS or (node.id in file.imported and node.id[1:2].islower()
                                                                and node.id[0].isupper()):
            if not (isinstance(up, ast.Call) and (up.func == node or called(up) == "isinstance")) \
                    and not isinstance(up, ast.ClassDef):
                yield "L18", node.lineno
    for node in file.all(ast.Call):
        used = [keyword.arg for keyword in node.keywords]
        if called(node) in OWN_CALLS and any(name not in KEYWORDS.get(called(node), ()) for name in used):
            yield "L22", node.lineno
        if used and isinstance(node.func, ast.Attribute) and node.func.attr in OWN_METHODS:
            yield "L22", node.lineno


def walked_at_once(file):
    for node in file.all(ast.Call):
        method = node.func.attr if isinstance(node.func, ast.Attribute) else None
        if called(node) in WALKED or method in ("items", "keys", "values"):
            up = file.above[node]
            walked = isinstance(up, (ast.For, ast.comprehension)) and up.iter == node
            if not walked and not (called(up) in WALKERS and up.args and up.args[0] == node):
                yield "L23", node.lineno
        if called(node) in ("set", "frozenset"):
            up = file.above[node]
            compared = isinstance(up, ast.Compare)
            joined = isinstance(up, ast.BinOp)
            if not compared and not joined and not (called(up) in ("sorted", "len") and not up.keywords):
                yield "L24", node.lineno
    for loop in file.all(ast.For):
        walked = [node.id for node in ast.walk(loop.iter) if isinstance(node, ast.Name)]
        for statement in loop.body:
            for node in ast.walk(statement):
                changed = None
                if isinstance(node, ast.Call) and isinstance(node.func, ast.Attribute) and node.func.attr in CHANGING:
                    changed = node.func.value
                if isinstance(node, ast.Subscript) and isinstance(node.ctx, ast.Store):
                    changed = node.value
                if isinstance(changed, ast.Name) and changed.id in walked:
                    yield "L23", node.lineno


def methods(file):
    own = [inner.name for node in file.all(ast.ClassDef) for inner in node.body if isinstance(inner, ast.FunctionDef)]
    for name in own:
        if name in PYTHONS and name not in OWN_METHODS + ["add", "discard", "__init__"]:
            yield "L26", 0
    for node in file.all(ast.Attribute):
        up = file.above[node]
        is_called = isinstance(up, ast.Call) and up.func == node
        if is_called and node.attr in PYTHONS and node.attr not in OWN_METHODS + own:
            yield "L25", node.lineno
        if not is_called and node.attr in PYTHONS and node.attr not in FREE_VALUES:
            yield "L25", node.lineno
        if isinstance(node.ctx, ast.Store):
            if node.attr in PYTHONS and node.attr not in FREE_VALUES:
                yield "L26", node.lineno
            if not isinstance(node.value, ast.Name) or node.value.id in file.top:
                yield "L18", node.lineno


def between_files(files):
    """What no file shows by itself: what they draw from one another, and how their classes go together."""
    by_name = {file.name[:-3]: file for file in files}
    draws = {name: set() for name in by_name}
    for file in files:
        for node in file.all(ast.ImportFrom):
            module = (node.module or "").split(".")
            known = len(module) == 2 and module[0] == "onemoment" and module[1] in by_name and node.level == 0
            if not known:
                yield "L2", file.name
                continue
            draws[file.name[:-3]].add(module[1])
            there = by_name[module[1]]
            for alias in node.names:
                if alias.name not in set(there.top) - set(there.imported) or alias.asname:
                    yield "L16", file.name
    for name in draws:
        reached = set(draws[name])
        while not reached >= set().union(*[draws[other] for other in reached]):
            reached |= set().union(*[draws[other] for other in reached])
        if name in reached:
            yield "L16", name
    own_methods = {inner.name for file in files for node in file.all(ast.ClassDef) for inner in node.body
                   if isinstance(inner, ast.FunctionDef)}
    own_values = {node.attr for file in files for node in file.all(ast.Attribute) if isinstance(node.ctx, ast.Store)}
    if own_methods & own_values:
        yield "L18", sorted(own_methods & own_values)
    own_names = own_methods | own_values
    for file in files:
        for node in file.all(ast.Attribute):
            if node.attr not in own_names and node.attr not in OWN_METHODS:
                yield "L25", f"{file.name}:{node.lineno}"
    if "__init__" in by_name and set(by_name["__init__"].top) & set(by_name):
        yield "L16", "__init__"


CHECKS = (
    files_and_names, size_and_signs, top_of_the_file, functions_and_classes, statements, expressions, names,
    python_s_own_as_called, walked_at_once, methods,
)


def faults(texts):
    """The rules that a package of these files, by name, goes against, and where."""
    files = [File(name, text) for name, text in texts.items()]
    found = []
    for file in files:
        for check in CHECKS:
            found.extend((rule, f"{file.name}:{line}") for rule, line in check(file))
    found.extend(between_files(files))
    return found


class Package(unittest.TestCase):
    def test_nothing_but_its_files_lies_in_it(self):
        others = [path.name for path in PACKAGE.iterdir() if path.name != "__pycache__" and path.suffix != ".py"]
        self.assertEqual(others, [])
        self.assertTrue((PACKAGE / "__init__.py").is_file())
        self.assertTrue((PACKAGE / "tellings.py").is_file())

    def test_every_file_keeps_to_the_rules(self):
        texts = {path.name: path.read_text("utf-8") for path in sorted(PACKAGE.glob("*.py"))}
        self.assertEqual(faults(texts), [])


class Checks(unittest.TestCase):
    """That the checks see what goes against the rules: each piece stands in a file by itself."""

    pieces = (
        ("L2", "def f():\n    from onemoment.other import g\n    return g()"),
        ("L2", "A = 1\nfrom onemoment.other import g"),
        ("L2", "from os import path"),
        ("L2", "from .other import g"),
        ("L2", "from onemoment import other"),
        ("L3", "def f():\n    return 1\n\nA = f()"),
        ("L3", "for a in (1, 2):\n    pass"),
        ("L3", "A = 1\nB = A + 1"),
        ("L4", "def f(*given):\n    return given"),
        ("L4", "def f(**given):\n    return given"),
        ("L4", "def f(*, a):\n    return a"),
        ("L4", "def f(a=[]):\n    return a"),
        ("L4", "def g(a):\n    return a\n\n@g\ndef f():\n    return 1"),
        ("L5", "class A:\n    b = 1"),
        ("L5", "class A:\n    pass"),
        ("L6", "def f(a):\n    b = c = a\n    return b"),
        ("L6", "def f(a):\n    b, c = a\n    return b"),
        ("L6", "def f(a):\n    assert a"),
        ("L6", "def f(a):\n    del a[0]"),
        ("L6", "def f(a):\n    for b in a:\n        pass\n    else:\n        pass"),
        ("L6", "def f(a):\n    'words'\n    return a"),
        ("L6", "def f(a):\n    with a:\n        pass"),
        ("L7", "def f(a):\n    return a / 2"),
        ("L7", "A = 1.5"),
        ("L7", "def f(a):\n    return sum(b for b in a)"),
        ("L7", "def f(a):\n    return {b: 1 for b in a}"),
        ("L7", "def f(a):\n    return [c for b in a for c in b]"),
        ("L7", "def f(a):\n    return [b for b in a if b if b > 1]"),
        ("L7", "def f(a):\n    return [*a]"),
        ("L7", "def f(a):\n    return f'{a + 1}'"),
        ("L7", "def f(a):\n    return (b := a)"),
        ("L7", "def f(a):\n    yield a"),
        ("L8", "def f(a):\n    return map(f, a)"),
        ("L8", "def len(a):\n    return a"),
        ("L9", "def f(a):\n    print(a)"),
        ("L10", "def f(a):\n" + "    a += 1\n" * 40),
        ("L10", "A = 1\n" + "\n" * 400),
        ("L10", "A = " + "1" * 120),
        ("L10", "def f(a):\n\treturn a"),
        ("L12", "def f(_a):\n    return _a"),
        ("L12", "def f(a):\n    for _ in a:\n        pass"),
        ("L12", "def f(a):\n    return a.__class__"),
        ("L13", "def f(a):\n    return a in {1, 2, 3}"),
        ("L13", "def f(a):\n    return [lambda b: a, lambda b: 1]"),
        ("L14", "A = '\u00e9'"),
        ("L15", "A = 1\nA = 2"),
        ("L15", "A = [1]"),
        ("L15", "A = {1: 2}"),
        ("L15", "def f(id):\n    return id"),
        ("L15", "def f():\n    max = 1\n    return max"),
        ("L15", "class A:\n    def b(self):\n        return 1\n\n\ndef f(A):\n    return A"),
        ("L15", "def f():\n    class A:\n        def b(self):\n            return 1\n    return A()"),
        ("L16", "import onemoment.other"),
        ("L16", "from onemoment.other import h"),
        ("L16", "from onemoment.other import g as h"),
        ("L17", "def f(a):\n    return eval(a)"),
        ("L17", "def f(a):\n    return a.open()"),
        ("L17", "A = 'a type of thing'"),
        ("L17", "# an enum\nA = 1"),
        ("L18", "class A:\n    def b(self):\n        return 1\n\n\ndef f():\n    return [A]"),
        ("L18", "class A:\n    def b(self):\n        return 1\n\n\ndef f():\n    A.c = 1"),
        ("L18", "class A:\n    def b(self):\n        self.b = 1"),
        ("L18", "class A:\n    def b(self):\n        return 1\n\n    def b(self):\n        return 2"),
        ("L19", "def f(a):\n    try:\n        return a[0]\n    except Exception:\n        return 1"),
        ("L20", "def f(a, b):\n    return a is b"),
        ("L21", "def f(a: int):\n    return a"),
        ("L21", "def f(a) -> int:\n    return a"),
        ("L21", "A: int = 1"),
        ("L22", "def f(a):\n    b = len\n    return b(a)"),
        ("L22", "def f(a):\n    return sum(a, key=len)"),
        ("L22", "def f(a):\n    return sorted(a, key=sorted)"),
        ("L22", "def f(a):\n    return a.split(sep=',')"),
        ("L23", "def f(a):\n    b = range(a)\n    return b"),
        ("L23", "def f(a):\n    return a.items()"),
        ("L23", "def f(a):\n    for b in a:\n        a.append(b)"),
        ("L23", "def f(a):\n    for b, c in enumerate(a):\n        a[b] = c"),
        ("L24", "def f(a):\n    return set(a)"),
        ("L24", "def f(a):\n    for b in set(a):\n        return b"),
        ("L24", "def f(a):\n    return sorted(set(a), reverse=True)"),
        ("L25", "def f(a):\n    a.sort()"),
        ("L25", "def f(a):\n    return a.encode()"),
        ("L25", "def f(a):\n    b = a.append\n    return b"),
        ("L25", "def f(a):\n    return a.unheard()"),
        ("L26", "class A:\n    def b(self):\n        self.items = 1"),
        ("L26", "class A:\n    def title(self):\n        return 1"),
        ("L27", "def f(a):\n    return 2 ** a"),
        ("L27", "A = 'a % b'"),
        ("L27", "A = '\\x41'"),
        ("L27", "def f(a):\n    return chr(a)"),
        ("L28", "class A:\n    def __len__(self):\n        return 1"),
        ("L28", "class A:\n    def __init__(self):\n        return None"),
    )
    other = "def g(a):\n    return a\n"

    def rules(self, texts):
        return [rule for rule, _ in faults(texts)]

    def test_pieces(self):
        for rule, piece in self.pieces:
            self.assertIn(rule, self.rules({"piece.py": piece, "other.py": self.other}), piece)

    def test_file_names(self):
        for rule, name in (("L1", "Piece.py"), ("L1", "_piece.py"), ("L14", "test_piece.py"), ("L14", "format.py"),
                           ("L14", "tests.py"), ("L14", "type.py"), ("L14", "len.py")):
            self.assertEqual(self.rules({name: self.other}), [rule], name)

    def test_rings_of_files(self):
        texts = {"a.py": "from onemoment.b import f\n\n\ndef g():\n    return f()\n",
                 "b.py": "from onemoment.c import h\n\n\ndef f():\n    return h()\n",
                 "c.py": "from onemoment.a import g\n\n\ndef h():\n    return g()\n"}
        self.assertEqual(self.rules(texts), ["L16", "L16", "L16"])

    def test_what_is_drawn_from_a_file_that_draws_it_itself(self):
        texts = {"a.py": "from onemoment.b import h\n\n\ndef g():\n    return h()\n",
                 "b.py": "from onemoment.c import h\n\n\ndef f():\n    return h()\n",
                 "c.py": "def h():\n    return 1\n"}
        self.assertEqual(self.rules(texts), ["L16"])

    def test_a_method_in_one_class_and_a_value_in_another(self):
        texts = {"a.py": "class A:\n    def much(self):\n        return 1\n",
                 "b.py": "class B:\n    def __init__(self):\n        self.much = 1\n"}
        self.assertEqual(self.rules(texts), ["L18"])

    def test_what_keeps_to_the_rules_passes(self):
        self.assertEqual(faults({"other.py": self.other, "piece.py": textwrap.dedent("""\
            \"\"\"Words.\"\"\"

            from onemoment.other import g

            A = -1
            B = ("b", 2)


            class C:
                def __init__(self, much):
                    self.much = much

                def more(self, a):
                    return self.much + a


            def f(a, b=1):
                c = C(b)
                found = [g(d) for d in a if d is not None]
                for place, d in enumerate(found):
                    c.much += max(d, place)
                if c.much not in B:
                    found.append(c.more(A))
                return sorted(set(found)) + sorted(found, key=lambda d: -d, reverse=True)


            D = (f, 1)
            """)}), [])


if __name__ == "__main__":
    unittest.main()
