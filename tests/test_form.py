"""The form of the package's files: the rules of LANGUAGE.md that a look at the syntax can tell.

Not every rule can be seen this way; what is found here is surely outside the rules.
"""

import ast
import builtins
import pathlib
import re
import unittest

PACKAGE = pathlib.Path(__file__).resolve().parent.parent / "lumprow"

BUILTINS = set("""len range enumerate zip min max sum abs sorted reversed int str bool list tuple dict set frozenset
    isinstance ord repr any all divmod Exception ValueError TypeError KeyError IndexError LookupError
    ZeroDivisionError ArithmeticError OverflowError RuntimeError NotImplementedError AttributeError
    StopIteration""".split())
METHODS = set("""append clear copy count endswith extend find get index insert isalnum isalpha isdigit islower isspace
    isupper items join keys ljust lower lstrip partition pop remove replace reverse rfind rjust rpartition rsplit
    rstrip setdefault split splitlines startswith strip update upper values zfill bit_length""".split())
DUNDERS = {"__init__", "__eq__", "__repr__", "__str__", "__len__"}
WORDS = re.compile(r"\b(type|typing|typing_extensions|enum|Enum|IntEnum|StrEnum|Flag|IntFlag|Generic|Protocol|ABC"
                   r"|ABCMeta|namedtuple|NamedTuple|TypedDict|TYPE_CHECKING|abstractmethod)\b"
                   r"|dataclass|overload|contextmanager")
NOT_USED = set("register mro elements open input version_info with_traceback add_note format format_map".split())
VALUES = set("count index title find get join lower upper split strip copy add".split())
KEYWORDS = {"sorted": {"key", "reverse"}, "min": {"key", "default"}, "max": {"key", "default"}, "sum": {"start"},
            "enumerate": {"start"}, "zip": {"strict"}}
WALKED = {"zip", "enumerate", "reversed", "range"}
FIRST_IN = {"list", "tuple", "dict", "sorted", "sum", "any", "all", "enumerate", "zip"}
STATEMENTS = (ast.Assign, ast.AugAssign, ast.If, ast.While, ast.For, ast.Return, ast.Break, ast.Continue, ast.Pass,
              ast.Raise, ast.Try, ast.Expr, ast.FunctionDef, ast.ClassDef, ast.ImportFrom)
EXPRESSIONS = (ast.Constant, ast.Name, ast.List, ast.Tuple, ast.Dict, ast.Set, ast.BinOp, ast.UnaryOp, ast.BoolOp,
               ast.Compare, ast.IfExp, ast.Call, ast.Attribute, ast.Subscript, ast.Slice, ast.ListComp, ast.Lambda,
               ast.JoinedStr, ast.FormattedValue)


def is_docstring(node, tree):
    return bool(tree.body) and node is tree.body[0] and isinstance(node.value, ast.Constant)


def text_faults(text):
    if any(sign != "\n" and not " " <= sign <= "~" for sign in text):
        yield "L14 a sign"
    if len(text.splitlines()) > 400 or any(len(row) > 120 for row in text.splitlines()):
        yield "L10 size"
    for word in WORDS.findall(text):
        yield f"L17 the word {word}"


def top_faults(tree):
    bound = []
    for node in tree.body:
        if isinstance(node, ast.ImportFrom):
            module = node.module or ""
            if node.level or not module.startswith("lumprow.") or any(n.name == "*" or n.asname for n in node.names):
                yield "L16 an import"
            bound.extend(n.name for n in node.names)
        elif isinstance(node, (ast.FunctionDef, ast.ClassDef)):
            bound.append(node.name)
        elif isinstance(node, ast.Assign):
            bound.extend(target.id for target in node.targets)
        elif not (isinstance(node, ast.Expr) and is_docstring(node, tree)):
            yield "L3 the top of a file"
    if len(bound) != len(set(bound)):
        yield "L15 a name bound twice"


def statement_faults(node, tree):
    if not isinstance(node, STATEMENTS):
        yield f"L6 {type(node).__name__}"
    if isinstance(node, ast.Expr) and not isinstance(node.value, ast.Call) and not is_docstring(node, tree):
        yield "L6 a value by itself"
    if isinstance(node, (ast.For, ast.While)) and node.orelse or isinstance(node, ast.Try) and node.finalbody:
        yield "L6 else behind a loop, or finally"
    if isinstance(node, ast.Assign) and (len(node.targets) > 1 or isinstance(node.targets[0], ast.Tuple)):
        yield "L6 several targets"
    if isinstance(node, ast.ImportFrom) and node not in tree.body:
        yield "L2 an import not at the top"
    if isinstance(node, ast.ClassDef):
        if node not in tree.body or node.decorator_list or node.keywords or len(node.bases) > 1:
            yield "L5 a class"
        if any(not isinstance(part, (ast.FunctionDef, ast.Pass)) for part in node.body):
            yield "L5 a class body"
    if isinstance(node, ast.FunctionDef):
        told = node.args
        if node.decorator_list or told.vararg or told.kwarg or told.kwonlyargs or told.posonlyargs:
            yield "L4 a function"
        if node.end_lineno - node.lineno >= 40:
            yield "L10 a long function"


def expression_faults(node):
    if isinstance(node, ast.expr) and not isinstance(node, EXPRESSIONS):
        yield f"L7 {type(node).__name__}"
    if isinstance(node, ast.Constant) and isinstance(node.value, (float, bytes, complex)):
        yield "L7 a value"
    if isinstance(node, ast.Constant) and isinstance(node.value, str) and "%" in node.value:
        yield "L27 a text"
    if isinstance(node, (ast.BinOp, ast.AugAssign)) and isinstance(node.op, (ast.Div, ast.MatMult)):
        yield "L7 a division"
    if isinstance(node, ast.ListComp) and (len(node.generators) > 1 or len(node.generators[0].ifs) > 1):
        yield "L7 a comprehension"
    if isinstance(node, ast.FormattedValue) and (node.format_spec or not isinstance(node.value, ast.Name)):
        yield "L7 an f-string"
    if isinstance(node, ast.Compare):
        for op, right in zip(node.ops, node.comparators):
            if isinstance(op, (ast.Is, ast.IsNot)) and not isinstance(right, ast.Constant):
                yield "L20 is"


def walked_faults(tree):
    """L23 and L24: what zip and its like, items and its like, and set tell is used on the spot."""
    fine = set()
    for node in ast.walk(tree):
        if isinstance(node, (ast.For, ast.comprehension)):
            fine.add(node.iter)
        elif isinstance(node, ast.Call) and node.args:
            join = isinstance(node.func, ast.Attribute) and node.func.attr == "join"
            if join or called(node) in FIRST_IN or called(node) in ("min", "max") and len(node.args) == 1:
                fine.add(node.args[0])
    for node in ast.walk(tree):
        if isinstance(node, ast.Call) and called(node) in WALKED and node not in fine:
            yield f"L23 {called(node)}"
        if isinstance(node, ast.Call) and isinstance(node.func, ast.Attribute) and node not in fine:
            if node.func.attr in ("items", "keys", "values"):
                yield f"L23 {node.func.attr}"
    yield from set_faults(tree)


def set_faults(tree):
    fine = set()
    for node in ast.walk(tree):
        if isinstance(node, ast.Call) and called(node) in ("sorted", "len") and not node.keywords:
            fine.update(node.args)
        elif isinstance(node, ast.Compare):
            fine.update([node.left] + node.comparators)
    # Between two sets, an operator is as right as the sets' own place.
    for node in list(fine):
        fine.update(part for part in ast.walk(node) if isinstance(node, ast.BinOp))
    for node in ast.walk(tree):
        if isinstance(node, ast.Call) and called(node) in ("set", "frozenset") and node not in fine:
            yield "L24 a set"


def power_faults(node):
    if isinstance(node, (ast.BinOp, ast.AugAssign)) and isinstance(node.op, ast.Pow):
        exponent = node.right if isinstance(node, ast.BinOp) else node.value
        if not (isinstance(exponent, ast.Constant) and 0 <= exponent.value <= 64):
            yield "L27 an exponent"


def call_faults(node):
    """L22: keywords only where they are told, at names and methods of Python's own."""
    if isinstance(node, ast.Call) and node.keywords:
        told = {keyword.arg for keyword in node.keywords}
        name = called(node) or getattr(node.func, "attr", None)
        if name in BUILTINS | METHODS and not told <= KEYWORDS.get(name, set()):
            yield f"L22 {name}"


def class_faults(tree):
    """L19, L21 and L28."""
    for node in ast.walk(tree):
        if isinstance(node, ast.ExceptHandler):
            caught = node.type.elts if isinstance(node.type, ast.Tuple) else [node.type]
            if any(not isinstance(kind, ast.Name) or kind.id in ("Exception", "TypeError") for kind in caught):
                yield "L19 a handler"
        if isinstance(node, ast.Raise) and not isinstance(node.exc, ast.Call):
            yield "L19 a raise"
        if isinstance(node, ast.AnnAssign) or isinstance(node, ast.arg) and node.annotation:
            yield "L21 an annotation"
        if isinstance(node, ast.FunctionDef) and node.returns:
            yield "L21 an annotation"
        if isinstance(node, ast.FunctionDef) and node.name == "__init__":
            if any(isinstance(part, ast.Return) for part in ast.walk(node)):
                yield "L28 __init__"


def kept_faults(tree):
    """L15 and L18: what a file's top holds has no list or dict within, and nothing is given to it."""
    tops = {target.id for node in tree.body if isinstance(node, ast.Assign) for target in node.targets}
    tops |= {node.name for node in tree.body if isinstance(node, (ast.ClassDef, ast.FunctionDef))}
    for node in tree.body:
        if isinstance(node, ast.Assign):
            inner = [part for part in ast.walk(node.value) if part is not node.value]
            if any(isinstance(part, (ast.List, ast.Dict, ast.Set, ast.ListComp)) for part in inner):
                yield "L15 a list within"
    for node in ast.walk(tree):
        if isinstance(node, (ast.Attribute, ast.Subscript)) and isinstance(node.ctx, ast.Store):
            if isinstance(node.value, ast.Name) and node.value.id in tops:
                yield "L15 or L18 something given to the file's top"


def values_of(text):
    return {node.attr for node in ast.walk(ast.parse(text))
            if isinstance(node, ast.Attribute) and isinstance(node.ctx, ast.Store)}


def own_name_faults(texts):
    """L18 and L26 over all files: no method is a value, and none is called like one of Python's own."""
    methods = set().union(*[methods_of(text) for text in texts]) - DUNDERS
    values = set().union(*[values_of(text) for text in texts])
    python_s = set().union(*[dir(kind) for kind in (str, int, list, dict, set, bytes, tuple, Exception)])
    yield from [f"L18 {name}" for name in sorted(methods & values)]
    yield from [f"L26 {name}" for name in sorted((methods - METHODS - {"add", "discard"} | values - VALUES) & python_s)]


def draws_of(text):
    """The files of the package that a file draws from, each with the names."""
    return {node.module.rpartition(".")[2]: [n.name for n in node.names] for node in ast.parse(text).body
            if isinstance(node, ast.ImportFrom)}


def bound_at_top(text):
    tops = ast.parse(text).body
    names = {node.name for node in tops if isinstance(node, (ast.FunctionDef, ast.ClassDef))}
    return names | {target.id for node in tops if isinstance(node, ast.Assign) for target in node.targets}


def draw_faults(texts):
    """L16 over all files: names come from the very file that defines them, and no two files draw from one another."""
    draws = {name: draws_of(text) for name, text in texts.items()}
    for name, drawn in draws.items():
        for other, names in drawn.items():
            if not set(names) <= bound_at_top(texts.get(other, "")):
                yield f"L16 {name} draws from {other} what it doesn't define"
    reached = {name: set(drawn) for name, drawn in draws.items()}
    for step in texts:
        for name, others in reached.items():
            others.update(*[reached[other] for other in list(others) if other in reached])
    for name, others in reached.items():
        if name in others:
            yield f"L16 {name} draws from itself"


def called(node):
    return node.func.id if isinstance(node.func, ast.Name) else None


def own_names(tree):
    """What the file itself binds, wherever: names that may be read in it."""
    names = {node.id for node in ast.walk(tree) if isinstance(node, ast.Name) and isinstance(node.ctx, ast.Store)}
    names |= {node.arg for node in ast.walk(tree) if isinstance(node, ast.arg)}
    names |= {node.name for node in ast.walk(tree) if isinstance(node, (ast.FunctionDef, ast.ClassDef))}
    names |= {node.name for node in ast.walk(tree) if isinstance(node, ast.ExceptHandler) and node.name}
    return names


def name_faults(tree):
    own = own_names(tree)
    brought = {n.name for node in tree.body if isinstance(node, ast.ImportFrom) for n in node.names}
    methods = {part.name for node in tree.body if isinstance(node, ast.ClassDef) for part in node.body
               if isinstance(part, ast.FunctionDef)}
    for name in own - DUNDERS:
        if not re.fullmatch("[A-Za-z][A-Za-z0-9_]*", name):
            yield f"L12 {name}"
        if name in NOT_USED or hasattr(builtins, name) and name not in methods:
            yield f"L15 or L17 {name}"
    if own & brought:
        yield "L15 a local called like an import"
    for node in ast.walk(tree):
        if isinstance(node, ast.Name) and node.id not in own | brought | BUILTINS:
            yield f"L8 {node.id}"
        if isinstance(node, ast.Attribute) and (node.attr in NOT_USED or node.attr.startswith("_")):
            if node.attr != "__init__":
                yield f"L17 {node.attr}"


def method_faults(tree, own_methods):
    for node in ast.walk(tree):
        if isinstance(node, ast.Call) and isinstance(node.func, ast.Attribute):
            if node.func.attr not in METHODS | own_methods | {"__init__"}:
                yield f"L25 {node.func.attr}"


def methods_of(text):
    return {part.name for node in ast.parse(text).body if isinstance(node, ast.ClassDef) for part in node.body
            if isinstance(part, ast.FunctionDef)}


def faults(text, own_methods):
    tree = ast.parse(text)
    found = list(text_faults(text)) + list(top_faults(tree)) + list(name_faults(tree))
    found.extend(list(method_faults(tree, own_methods)) + list(walked_faults(tree)))
    found.extend(list(class_faults(tree)) + list(kept_faults(tree)))
    for node in ast.walk(tree):
        if isinstance(node, ast.stmt):
            found.extend(statement_faults(node, tree))
        found.extend(list(expression_faults(node)) + list(power_faults(node)) + list(call_faults(node)))
    return found


class Form(unittest.TestCase):
    def test_files(self):
        names = [path.name for path in PACKAGE.iterdir() if path.name != "__pycache__"]
        self.assertIn("__init__.py", names)
        for name in names:
            self.assertRegex(name, r"^[a-z_][a-z0-9_]*\.py$")
            self.assertFalse(name.startswith("test"), name)

    def test_every_file_keeps_to_the_rules(self):
        texts = {path.name: path.read_text(encoding="utf-8") for path in sorted(PACKAGE.glob("*.py"))}
        own_methods = set().union(*[methods_of(text) for text in texts.values()])
        for name, text in texts.items():
            self.assertEqual(faults(text, own_methods), [], name)

    def test_files_draw_from_one_another_by_the_rules(self):
        texts = {path.stem: path.read_text(encoding="utf-8") for path in sorted(PACKAGE.glob("*.py"))}
        self.assertEqual(list(draw_faults(texts)), [])
        circle = {"a": "from lumprow.b import x\ny = 1\n", "b": "from lumprow.c import z\nx = 1\n",
                  "c": "from lumprow.a import y\nz = 1\n"}
        self.assertEqual(len(list(draw_faults(circle))), 3)
        handed_on = {"a": "from lumprow.b import z\n", "b": "from lumprow.c import z\n", "c": "z = 1\n"}
        self.assertEqual(len(list(draw_faults(handed_on))), 1)

    def test_names_of_methods_and_values(self):
        texts = [path.read_text(encoding="utf-8") for path in sorted(PACKAGE.glob("*.py"))]
        self.assertEqual(list(own_name_faults(texts)), [])
        method = "class A:\n    def row(self):\n        pass\n"
        for name in ("row", "items", "format", "real", "args"):
            value = f"class B:\n    def __init__(self):\n        self.{name} = 1\n"
            self.assertEqual(len(list(own_name_faults([method, value]))), 1)

    def test_what_is_outside_the_rules_is_found(self):
        for text in ("import os\n", "from lumprow import rows\n", "x = 1\nx = 2\n", "print(1)\n", "a = 1.5\n",
                     "def f(*a):\n    pass\n", "def f(a):\n    b, c = a\n", "def f(a):\n    return a / 2\n",
                     "def f(a):\n    return a.title()\n", "def f(a):\n    b = zip(a, a)\n", "def f(a):\n    'words'\n",
                     "def f(a):\n    return any(x for x in a)\n", "def f(a):\n    assert a\n", "# a type\n",
                     "def f(a):\n    return a is f\n", "def f(a):\n    return eval(a)\n", "a = 'x%'\n",
                     "def f(a):\n    return sorted(set(a), reverse=True)\n", "def f(a):\n    return a.items()\n",
                     "def f(a):\n    b = set(a)\n", "def f(a):\n    return max(reversed(a), a)\n",
                     "def f(a):\n    return zip(a, reversed(a))\n", "def f(a):\n    return 2 ** a\n",
                     "def f(next):\n    pass\n", "def f(hidden, _a):\n    pass\n", "class A:\n    b = 1\n",
                     "def f(a):\n    return sorted(a, cmp=a)\n", "def f(a):\n    return a.split(sep=a)\n",
                     "def f(a: int):\n    pass\n", "def f(a) -> int:\n    pass\n", "a = [[1]]\n", "a = {1: [2]}\n",
                     "a = [1]\ndef f():\n    a[0] = 2\n", "class A:\n    pass\ndef f():\n    A.b = 2\n",
                     "def f():\n    try:\n        f()\n    except Exception:\n        pass\n",
                     "def f(a):\n    raise a\n", "class A:\n    def __init__(self):\n        return None\n"):
            self.assertNotEqual(faults(text, set()), [], text)


if __name__ == "__main__":
    unittest.main()
