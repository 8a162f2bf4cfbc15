"""The package's files keep to the rules of LANGUAGE.md that a simple look can hold."""

import ast
import builtins
import pathlib
import re
import unittest

FOLDER = pathlib.Path(__file__).resolve().parent.parent / "gameround"

ALLOWED_BUILTINS = set("""
    len range enumerate zip min max sum abs sorted reversed int str bool list tuple dict set frozenset isinstance
    ord repr any all divmod Exception ValueError TypeError KeyError IndexError LookupError ZeroDivisionError
    ArithmeticError OverflowError RuntimeError NotImplementedError AttributeError StopIteration
""".split())
ALLOWED_METHODS = set("""
    append clear copy count endswith extend find get index insert isalnum isalpha isdigit islower isspace isupper
    items join keys ljust lower lstrip partition pop remove replace reverse rfind rjust rpartition rsplit rstrip
    setdefault split splitlines startswith strip update upper values zfill bit_length
""".split())
BARRED_NAMES = set("""
    register mro elements open input version_info with_traceback add_note attrgetter breakpoint builtins compile
    copyright credits delattr dir eval exec exit gc getattr globals hasattr help id importlib license locals
    methodcaller os quit setattr super type vars sys print chr
""".split())
BARRED_WORDS = re.compile(
    r"\b(type|typing|typing_extensions|enum|Enum|IntEnum|StrEnum|Flag|IntFlag|Generic|Protocol|ABC|ABCMeta|namedtuple"
    r"|NamedTuple|TypedDict|TYPE_CHECKING|abstractmethod)\b|dataclass|overload|contextmanager")
BARRED_NODES = (
    ast.With, ast.AsyncWith, ast.Match, ast.Delete, ast.Global, ast.Nonlocal, ast.Assert, ast.Yield, ast.YieldFrom,
    ast.Await, ast.AsyncFor, ast.AsyncFunctionDef, ast.TryStar, ast.SetComp, ast.DictComp, ast.GeneratorExp,
    ast.NamedExpr, ast.Starred, ast.Div, ast.MatMult, ast.Import, ast.Set,
)
METHODS_WITH_UNDERSCORES = ("__init__", "__eq__", "__repr__", "__str__", "__len__")


def row_faults(source):
    faults = []
    rows = source.split("\n")
    if len(source.splitlines()) > 400:
        faults.append("L10 file too long")
    for number, row in enumerate(rows, start=1):
        if len(row) > 120:
            faults.append(f"L10 row {number} too long")
        if any(not " " <= sign <= "~" for sign in row):
            faults.append(f"L14 row {number} has another sign")
        if BARRED_WORDS.search(row):
            faults.append(f"L17 row {number} has a barred word")
    return faults


def import_faults(tree):
    faults = []
    for node in ast.walk(tree):
        if isinstance(node, ast.ImportFrom):
            own = node.level == 0 and (node.module or "").startswith("gameround.")
            if not own or any(name.name == "*" or name.asname for name in node.names):
                faults.append(f"L2 row {node.lineno} import")
            if node not in tree.body:
                faults.append(f"L2 row {node.lineno} import not at the top")
    return faults


def top_faults(tree):
    faults = []
    bound = []
    for place, node in enumerate(tree.body):
        if isinstance(node, (ast.FunctionDef, ast.ClassDef)):
            bound.append(node.name)
        elif isinstance(node, ast.Assign):
            bound.extend(target.id for target in node.targets if isinstance(target, ast.Name))
        elif isinstance(node, ast.ImportFrom):
            bound.extend(name.name for name in node.names)
        elif place > 0 or not isinstance(node, ast.Expr) or not isinstance(node.value, ast.Constant):
            faults.append(f"L3 row {node.lineno} at the top")
    if len(bound) != len(set(bound)):
        faults.append("L15 a name is bound twice at the top")
    return faults


def def_faults(node):
    faults = []
    if node.decorator_list:
        faults.append(f"L4 row {node.lineno} decorator")
    if isinstance(node, ast.ClassDef):
        if len(node.bases) > 1 or node.keywords:
            faults.append(f"L5 row {node.lineno} bases")
        if any(not isinstance(part, (ast.FunctionDef, ast.Pass)) for part in node.body):
            faults.append(f"L5 row {node.lineno} class body")
        return faults
    if node.end_lineno - node.lineno + 1 > 40:
        faults.append(f"L10 row {node.lineno} function too long")
    if node.args.vararg or node.args.kwarg or node.args.kwonlyargs or node.args.posonlyargs:
        faults.append(f"L4 row {node.lineno} parameters")
    return faults


def name_fault(node):
    used = None
    if isinstance(node, ast.Name):
        used = node.id
        bound = not isinstance(node.ctx, ast.Load)
        if used in dir(builtins) and (bound or used not in ALLOWED_BUILTINS):
            return f"L8 row {node.lineno} name {used}"
    elif isinstance(node, ast.arg):
        used = node.arg
        if used in dir(builtins):
            return f"L15 row {node.lineno} parameter {used}"
    elif isinstance(node, ast.Attribute):
        used = node.attr
        if used not in ALLOWED_METHODS:
            return f"L25 row {node.lineno} method {used}"
    elif isinstance(node, (ast.FunctionDef, ast.ClassDef)):
        used = node.name
    if used is None or used in METHODS_WITH_UNDERSCORES:
        return None
    if used in BARRED_NAMES or not re.fullmatch(r"[A-Za-z][A-Za-z0-9_]*", used):
        return f"L12 or L17 row {node.lineno} name {used}"
    return None


def is_plain(node):
    return isinstance(node, ast.Constant) and (node.value is None or isinstance(node.value, bool))


def node_faults(node):
    faults = []
    row = getattr(node, "lineno", "?")
    if isinstance(node, BARRED_NODES):
        faults.append(f"L6 or L7 row {row} {type(node).__name__}")
    if isinstance(node, ast.Constant) and not (node.value is None or isinstance(node.value, (int, str))):
        faults.append(f"L7 row {row} value")
    if isinstance(node, (ast.For, ast.While)) and node.orelse:
        faults.append(f"L6 row {row} else behind a loop")
    if isinstance(node, ast.Try) and (node.finalbody or any(handler.type is None for handler in node.handlers)):
        faults.append(f"L6 row {row} try")
    if isinstance(node, ast.Assign) and len(node.targets) > 1:
        faults.append(f"L6 row {row} targets")
    if isinstance(node, ast.ListComp) and (len(node.generators) > 1 or len(node.generators[0].ifs) > 1):
        faults.append(f"L7 row {row} comprehension")
    if isinstance(node, ast.FormattedValue) and (not isinstance(node.value, ast.Name) or node.format_spec):
        faults.append(f"L7 row {row} f-string")
    if isinstance(node, ast.Compare) and any(isinstance(sign, (ast.Is, ast.IsNot)) for sign in node.ops):
        if not any(is_plain(side) for side in [node.left] + node.comparators):
            faults.append(f"L20 row {row} is")
    return faults


def faults_of(source):
    tree = ast.parse(source)
    faults = row_faults(source) + import_faults(tree) + top_faults(tree)
    for node in ast.walk(tree):
        faults += node_faults(node)
        if isinstance(node, (ast.FunctionDef, ast.ClassDef)):
            faults += def_faults(node)
        fault = name_fault(node)
        if fault:
            faults.append(fault)
    return faults


def module_sources():
    return {path.stem: path.read_bytes().decode("utf-8") for path in sorted(FOLDER.glob("*.py"))}


def drawn_from(source):
    """For each module that a file draws from, the names it takes there."""
    drawn = {}
    for node in ast.parse(source).body:
        if isinstance(node, ast.ImportFrom):
            drawn.setdefault(node.module.split(".", 1)[1], []).extend(name.name for name in node.names)
    return drawn


class PackageFiles(unittest.TestCase):
    def test_the_folder_holds_plain_files_alone(self):
        # Python itself lays __pycache__ there when it is not told otherwise; it is not kept in the repository.
        names = sorted(path.name for path in FOLDER.iterdir() if path.name != "__pycache__")
        self.assertEqual(names, ["__init__.py", "errors.py", "plan.py", "table.py"])

    def test_each_file_keeps_to_the_rules(self):
        for name, source in module_sources().items():
            self.assertEqual(faults_of(source), [], name)

    def test_imports_are_from_the_file_that_defines_the_name(self):
        sources = module_sources()
        for name, source in sources.items():
            for module, taken in drawn_from(source).items():
                defined = [node.name for node in ast.parse(sources[module]).body
                           if isinstance(node, (ast.FunctionDef, ast.ClassDef))]
                self.assertLessEqual(set(taken), set(defined), name)

    def test_no_two_files_draw_from_one_another(self):
        draws = {name: set(drawn_from(source)) for name, source in module_sources().items()}
        self.assertEqual(draws["__init__"], set())
        while draws:
            free = [name for name in draws if not draws[name] & set(draws)]
            self.assertTrue(free, draws)
            draws = {name: drawn for name, drawn in draws.items() if name not in free}


class TheLookItself(unittest.TestCase):
    def test_what_keeps_to_the_rules(self):
        self.assertEqual(faults_of('"""Words."""\n\nfrom gameround.plan import partner\n\nFEW = 3\n\n\n'
                                   'def half(number):\n    return partner(number // 2, 0, FEW)\n'), [])
        body = "    half = 1\n" * 38
        self.assertEqual(faults_of("def long(one):\n" + body + "    return one\n"), [])
        self.assertEqual(faults_of("# " + "a" * 118 + "\n"), [])
        self.assertEqual(faults_of("\n" * 400), [])

    def test_what_breaks_them(self):
        wrong = (
            "import math\n", "import sys\n", "from math import gcd\n", "from .plan import partner\n",
            "from gameround import plan\n", "from gameround.plan import *\n",
            "def f(one):\n    from gameround.plan import partner\n    return partner(one, 0, 0)\n",
            "# " + "a" * 119 + "\n", "one = 1\t\n", "# \u00e4\n", "one = 1\r\n", "\n" * 401,
            "def f(one):\n" + "    half = 1\n" * 39 + "    return one\n",
            "def f(*many):\n    return many\n", "def f(one):\n    return one / 2\n", "half = 0.5\n",
            "def f(one):\n    return open(one)\n", "def f(one):\n    print(one)\n", "def f(min):\n    return min\n",
            "def f(one):\n    sum = one\n    return sum\n", "def f(one):\n    assert one\n",
            "def f(one):\n    return sum(x for x in one)\n", "def f(one):\n    return {x for x in one}\n",
            "def f(one):\n    return one is 3\n", "def f(one):\n    a = b = one\n    return a\n",
            "def f(one):\n    one.sort()\n", "def f(one):\n    return f'{one + 1}'\n", "def _f(one):\n    return one\n",
            "def f(one):\n    for x in one:\n        pass\n    else:\n        pass\n", "# the type of it\n",
            "class A:\n    value = 1\n", "one = 1\none = 2\n", "print(1)\n",
        )
        for source in wrong:
            self.assertNotEqual(faults_of(source), [], repr(source[:60]))


if __name__ == "__main__":
    unittest.main()
