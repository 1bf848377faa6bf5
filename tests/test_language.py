"""The package keeps to its part of Python: the rules that can be seen in its files.

Where a rule allows something under conditions that the package has no need of, the tests allow none of it.
"""

import ast
import builtins
import pathlib
import re
import unittest

ROOT = pathlib.Path(__file__).resolve().parent.parent
PACKAGE = ROOT / "fleetcatch"

ALLOWED_NODES = set(
    """Module Expr Constant Import ImportFrom alias FunctionDef ClassDef arguments arg Assign AugAssign If While For
    Return Break Continue Pass Raise Try ExceptHandler Call Attribute Subscript Slice Name Load Store BinOp UnaryOp
    BoolOp Compare IfExp ListComp comprehension List Tuple Dict Set Lambda JoinedStr FormattedValue And Or Not Add Sub
    Mult FloorDiv Mod Pow BitAnd BitOr BitXor LShift RShift Invert USub UAdd Eq NotEq Lt LtE Gt GtE Is IsNot In NotIn
    keyword""".split()
)
OWN_NAMES = set(
    """len range enumerate zip min max sum abs sorted reversed int str bool list tuple dict set frozenset isinstance
    ord repr any all divmod Exception ValueError TypeError KeyError IndexError LookupError ZeroDivisionError
    ArithmeticError OverflowError RuntimeError NotImplementedError AttributeError StopIteration""".split()
)
METHODS = set(
    """append clear copy count endswith extend find get index insert isalnum isalpha isdigit islower isspace isupper
    items join keys ljust lower lstrip partition pop remove replace reverse rfind rjust rpartition rsplit rstrip
    setdefault split splitlines startswith strip update upper values zfill bit_length""".split()
)
TAKEN_NAMES = {name for kind in (str, int, list, dict, set, bytes) for name in dir(kind)}
VALUES_TOO = {"count", "index", "title", "find", "get", "join", "lower", "upper", "split", "strip", "copy", "add"}
UNUSED_NAMES = set("register mro elements open input version_info with_traceback add_note format format_map".split())
UNUSED_AS_NAMES = set(
    """attrgetter breakpoint builtins compile copyright credits delattr dir eval exec exit gc getattr globals hasattr
    help id importlib license locals methodcaller os quit setattr super type vars sys __name__""".split()
)
CHANGES = {"append", "clear", "extend", "insert", "pop", "remove", "reverse", "setdefault", "update"}
WALKED_AT_ONCE = {"zip", "enumerate", "reversed", "range", "items", "keys", "values"}
UNUSED_WORDS = re.compile(
    r"\b(type|typing|typing_extensions|enum|Enum|IntEnum|StrEnum|Flag|IntFlag|Generic|Protocol|ABC|ABCMeta|namedtuple"
    r"|NamedTuple|TypedDict|TYPE_CHECKING|abstractmethod)\b|dataclass|overload|contextmanager"
)
PLAIN_NAME = re.compile(r"[A-Za-z][A-Za-z0-9_]*\Z")


def bound_names(node):
    """The names that a node binds."""
    if isinstance(node, (ast.FunctionDef, ast.ClassDef)):
        return [node.name]
    if isinstance(node, ast.arg):
        return [node.arg]
    if isinstance(node, ast.Name) and isinstance(node.ctx, ast.Store):
        return [node.id]
    if isinstance(node, ast.alias):
        return [node.asname or node.name]
    return []


def name_faults(node):
    for name in bound_names(node):
        if not PLAIN_NAME.match(name) and name != "__init__":
            yield "L12", f"the name {name}"
        if name in dir(builtins) or name in UNUSED_NAMES:
            yield "L15", f"the name {name} is Python's own"
        if name in UNUSED_AS_NAMES:
            yield "L17", f"the name {name}"
    if isinstance(node, ast.Attribute):
        if not PLAIN_NAME.match(node.attr) or node.attr in UNUSED_NAMES:
            yield "L17", f"the name {node.attr}"
        if isinstance(node.ctx, ast.Store) and node.attr in TAKEN_NAMES - VALUES_TOO:
            yield "L26", f"the value {node.attr}"
    if isinstance(node, ast.Name) and node.id in dir(builtins) and node.id not in OWN_NAMES:
        yield "L8", f"Python's {node.id}"


def statement_faults(node):
    if isinstance(node, ast.Expr) and not isinstance(node.value, ast.Call):
        yield "L6", "an expression by itself"
    if isinstance(node, ast.Assign) and (len(node.targets) > 1 or isinstance(node.targets[0], (ast.Tuple, ast.List))):
        yield "L6", "several targets"
    if isinstance(node, (ast.For, ast.While)) and node.orelse:
        yield "L6", "else behind a loop"
    if isinstance(node, ast.Try) and node.finalbody:
        yield "L6", "finally"
    if isinstance(node, ast.FunctionDef):
        rest = node.args
        if node.decorator_list or rest.vararg or rest.kwarg or rest.kwonlyargs or rest.posonlyargs:
            yield "L4", f"the form of {node.name}"
        if node.end_lineno - node.lineno >= 40:
            yield "L10", f"{node.name} is too long"
    if isinstance(node, ast.ClassDef):
        if node.decorator_list or len(node.bases) > 1 or node.keywords:
            yield "L5", f"the form of {node.name}"
        if any(not isinstance(part, ast.FunctionDef) for part in node.body):
            yield "L5", f"{node.name} holds more than methods"


def expression_faults(node):
    if isinstance(node, ast.Constant) and not isinstance(node.value, (int, str, type(None))):
        yield "L7", f"the value {node.value!r}"
    if isinstance(node, ast.Constant) and isinstance(node.value, str) and "%" in node.value:
        yield "L27", "a percent sign in a text"
    if isinstance(node, ast.ListComp) and (len(node.generators) > 1 or len(node.generators[0].ifs) > 1):
        yield "L7", "a comprehension with more than one for or if"
    if isinstance(node, ast.BinOp) and isinstance(node.op, ast.Pow):
        if not isinstance(node.right, ast.Constant) or not 0 <= node.right.value <= 64:
            yield "L27", "an exponent that isn't written"
    if isinstance(node, ast.Compare) and any(isinstance(part, (ast.Is, ast.IsNot)) for part in node.ops):
        sides = [node.left, *node.comparators]
        if not any(isinstance(side, ast.Constant) and side.value in (None, True, False) for side in sides):
            yield "L20", "is between values"


def unneeded_faults(node):
    """What the rules allow in some places, and the package has in none."""
    if isinstance(node, ast.Lambda):
        yield "L13", "a lambda"
    if isinstance(node, (ast.Try, ast.Raise)):
        yield "L19", "an error"
    if isinstance(node, ast.arg) and node.annotation or isinstance(node, ast.FunctionDef) and node.returns:
        yield "L21", "an annotation"
    if isinstance(node, ast.keyword):
        yield "L22", f"the keyword {node.arg}"
    if isinstance(node, ast.Set) or isinstance(node, ast.Name) and node.id in ("set", "frozenset"):
        yield "L24", "a set"
    if isinstance(node, ast.FunctionDef) and node.name == "__init__":
        if any(isinstance(part, ast.Return) for part in ast.walk(node)):
            yield "L28", "a return of __init__"


def called_name(node):
    if isinstance(node, ast.Call):
        return getattr(node.func, "id", getattr(node.func, "attr", None))
    return None


def use_faults(tree):
    """Python's own functions and the package's classes are called; what is walked at once is walked on the spot."""
    classes = {node.name for node in tree.body if isinstance(node, ast.ClassDef)}
    imports = {alias.asname or alias.name for node in tree.body if isinstance(node, ast.ImportFrom) for alias in node.names}
    classes |= {name for name in imports if name[0].isupper() and not name.isupper()}
    called = {id(node.func) for node in ast.walk(tree) if isinstance(node, ast.Call)}
    walked = {id(node.iter) for node in ast.walk(tree) if isinstance(node, (ast.For, ast.comprehension))}
    for node in ast.walk(tree):
        if isinstance(node, ast.Name) and isinstance(node.ctx, ast.Load) and id(node) not in called:
            if node.id in OWN_NAMES:
                yield "L22", f"{node.id} as a value"
            if node.id in classes:
                yield "L18", f"the class {node.id} as a value"
        if called_name(node) in WALKED_AT_ONCE and id(node) not in walked:
            yield "L23", f"{called_name(node)} is kept"
        if isinstance(node, (ast.arg, ast.Name)) and set(bound_names(node)) & (classes | imports):
            yield "L15", f"the local {bound_names(node)[0]}"


def changed_in_walk_faults(tree):
    """A loop changes nothing of what it walks."""
    for loop in ast.walk(tree):
        if isinstance(loop, ast.For):
            walked = {ast.unparse(node) for node in ast.walk(loop.iter) if isinstance(node, (ast.Name, ast.Attribute))}
            for node in [part for row in loop.body for part in ast.walk(row)]:
                if isinstance(node, ast.Call) and isinstance(node.func, ast.Attribute):
                    if node.func.attr in CHANGES and ast.unparse(node.func.value) in walked:
                        yield "L23", f"{ast.unparse(node)} in its walk"
                if isinstance(node, ast.Subscript) and isinstance(node.ctx, ast.Store):
                    if ast.unparse(node.value) in walked:
                        yield "L23", f"{ast.unparse(node)} in its walk"


def drawn_files(text):
    """The package's files that a file draws from."""
    return {
        node.module.partition(".")[2]
        for node in ast.walk(ast.parse(text))
        if isinstance(node, ast.ImportFrom) and node.module
    }


def files_in_circles(texts):
    """Of texts by their file's name: the files that draw from themselves, in whatever many steps."""
    drawn = {name: drawn_files(text) for name, text in texts.items()}
    for step in texts:
        drawn = {name: files.union(*[drawn.get(file, set()) for file in files]) for name, files in drawn.items()}
    return [name for name, files in drawn.items() if name in files]


def top_faults(tree):
    seen = []
    for place, node in enumerate(tree.body):
        docstring = place == 0 and isinstance(node, ast.Expr) and isinstance(node.value, ast.Constant)
        if isinstance(node, ast.ImportFrom):
            if node.level or not (node.module or "").startswith("fleetcatch."):
                yield "L2", f"an import of {node.module}"
            seen += [alias.name for alias in node.names]
        elif isinstance(node, ast.Assign):
            try:
                ast.literal_eval(node.value)
            except ValueError:
                yield "L3", f"line {node.lineno} is no plain value"
            seen.append(node.targets[0].id)
        elif isinstance(node, (ast.FunctionDef, ast.ClassDef)):
            seen.append(node.name)
        elif not docstring:
            yield "L3", f"line {node.lineno} at the top"
    if len(seen) != len(set(seen)):
        yield "L15", "a name is bound twice at the top"


def method_faults(tree, own):
    for node in ast.walk(tree):
        if isinstance(node, ast.Call) and isinstance(node.func, ast.Attribute):
            if node.func.attr not in METHODS and node.func.attr not in own:
                yield "L25", f"the method {node.func.attr}"


def sign_faults(text):
    for number, line in enumerate(text.split("\n"), start=1):
        if len(line) > 120:
            yield "L10", f"line {number} is too long"
        if re.search(r"[^ -~]", line):
            yield "L14", f"a sign in line {number}"
        if UNUSED_WORDS.search(line):
            yield "L17", f"a word in line {number}"
    if text.count("\n") > 400:
        yield "L10", "the file is too long"


def file_faults(text, own_methods=()):
    """The rules that a file's text breaks, each with what breaks it."""
    tree = ast.parse(text)
    faults = [*sign_faults(text), *top_faults(tree), *method_faults(tree, own_methods)]
    faults += [*use_faults(tree), *changed_in_walk_faults(tree)]
    docstring = tree.body[0] if tree.body and ast.get_docstring(tree) else None
    for node in ast.walk(tree):
        sort = node.__class__.__name__
        if sort not in ALLOWED_NODES:
            faults.append(("L6" if isinstance(node, ast.stmt) else "L7", sort))
        if isinstance(node, ast.ImportFrom) and node not in tree.body:
            faults.append(("L2", "an import within"))
        if node is not docstring:
            faults += [*name_faults(node), *statement_faults(node), *expression_faults(node), *unneeded_faults(node)]
    return faults


def package_methods(texts):
    return {
        part.name
        for text in texts
        for node in ast.walk(ast.parse(text))
        if isinstance(node, ast.ClassDef)
        for part in node.body
        if isinstance(part, ast.FunctionDef)
    }


class Language(unittest.TestCase):
    def test_only_plain_files_lie_in_the_package(self):
        for path in sorted(PACKAGE.rglob("*")):
            if "__pycache__" not in path.parts:
                with self.subTest(path.name):
                    self.assertRegex(path.name, r"\A([a-z][a-z0-9_]*|__init__|__main__)\.py\Z")
                    self.assertNotIn(path.stem, dir(builtins))
        self.assertTrue((PACKAGE / "__init__.py").is_file())

    def test_each_file_keeps_the_rules(self):
        texts = {path: path.read_text(encoding="utf-8") for path in sorted(PACKAGE.rglob("*.py"))}
        own = package_methods(texts.values())
        for path, text in texts.items():
            with self.subTest(path.name):
                self.assertEqual(file_faults(text, own), [])

    def test_no_method_is_also_a_value(self):
        texts = [path.read_text(encoding="utf-8") for path in sorted(PACKAGE.rglob("*.py"))]
        values = {
            node.attr
            for text in texts
            for node in ast.walk(ast.parse(text))
            if isinstance(node, ast.Attribute) and isinstance(node.ctx, ast.Store)
        }
        self.assertEqual(values & package_methods(texts), set())

    def test_no_two_files_draw_from_one_another(self):
        texts = {path.stem: path.read_text(encoding="utf-8") for path in sorted(PACKAGE.rglob("*.py"))}
        self.assertEqual(files_in_circles(texts), [])
        rows = {"a": "from fleetcatch.b import x\n", "b": "from fleetcatch.c import x\n", "c": "x = 1\n"}
        self.assertEqual(files_in_circles(rows), [])
        self.assertEqual(files_in_circles({**rows, "c": "from fleetcatch.a import x\n"}), ["a", "b", "c"])

    def test_each_name_is_drawn_from_the_file_that_defines_it(self):
        texts = {path.stem: path.read_text(encoding="utf-8") for path in sorted(PACKAGE.rglob("*.py"))}
        for name, text in texts.items():
            for node in ast.walk(ast.parse(text)):
                if isinstance(node, ast.ImportFrom):
                    tops = ast.parse(texts[node.module.partition(".")[2]]).body
                    defined = {part.name for part in tops if isinstance(part, (ast.FunctionDef, ast.ClassDef))}
                    defined |= {part.targets[0].id for part in tops if isinstance(part, ast.Assign)}
                    with self.subTest(file=name, drawn=node.module):
                        self.assertEqual({alias.name for alias in node.names} - defined, set())

    def test_faults_are_found(self):
        for rule, text in (
            ("L3", "import sys\n"),
            ("L2", "from os import path\n"),
            ("L3", "x = len([1])\n"),
            ("L4", "def f(*xs):\n    return xs\n"),
            ("L5", "class C:\n    x = 1\n"),
            ("L6", "def f():\n    global y\n"),
            ("L6", "def f():\n    a = b = 1\n"),
            ("L7", "def f():\n    return 1 / 2\n"),
            ("L7", "def f():\n    return 0.5\n"),
            ("L8", "def f(x):\n    return hash(x)\n"),
            ("L10", "x = 1" + " " * 120 + "\n"),
            ("L12", "def f(x):\n    _x = x\n    return _x\n"),
            ("L14", "x = 1\t\n"),
            ("L15", "x = 1\nx = 2\n"),
            ("L17", "# of this type\nx = 1\n"),
            ("L13", "def f(xs):\n    return sorted(xs, key=lambda x: x)\n"),
            ("L15", "class C:\n    pass\n\n\ndef f(C):\n    return C\n"),
            ("L15", "from fleetcatch.ship import can_start\n\n\ndef f():\n    can_start = 1\n    return can_start\n"),
            ("L17", "def f(sys):\n    return sys\n"),
            ("L18", "from fleetcatch.ship import Ship\n\n\ndef f():\n    return [Ship]\n"),
            ("L19", "def f(x):\n    try:\n        return int(x)\n    except ValueError:\n        return 0\n"),
            ("L21", "def f(x: int):\n    return x\n"),
            ("L21", "def f(x) -> int:\n    return x\n"),
            ("L22", "def f(xs):\n    return sorted(xs, reverse=True)\n"),
            ("L22", "def f():\n    return len\n"),
            ("L23", "def f(xs):\n    pairs = zip(xs, xs)\n    return pairs\n"),
            ("L23", "def f(xs):\n    for x in xs:\n        xs.append(x)\n"),
            ("L23", "def f(xs):\n    for k, x in enumerate(xs):\n        xs[k] = x\n"),
            ("L24", "def f(xs):\n    return set(xs)\n"),
            ("L28", "class C:\n    def __init__(self):\n        return None\n"),
            ("L20", "def f(x, y):\n    return x is y\n"),
            ("L25", "def f(x):\n    return x.sort()\n"),
            ("L26", "def f(x):\n    x.pop = 1\n"),
            ("L27", "def f(n):\n    return 2 ** n\n"),
        ):
            with self.subTest(rule=rule, text=text):
                self.assertIn(rule, [fault[0] for fault in file_faults(text)])


if __name__ == "__main__":
    unittest.main()
