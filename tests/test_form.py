"""The form of the package's files: the rules L1 to L28 so far as a walk over the code can see them."""

import ast
import builtins
import pathlib
import re
import unittest

ROOT = pathlib.Path(__file__).resolve().parent.parent
PACKAGE = ROOT / "fencegate"

NODES = """
Module FunctionDef ClassDef Return Assign AugAssign For While If Raise Try ExceptHandler Pass Break Continue Expr
ImportFrom alias arguments arg Lambda BoolOp And Or UnaryOp Not USub UAdd Invert BinOp Add Sub Mult FloorDiv Mod Pow
BitAnd BitOr BitXor LShift RShift Compare Eq NotEq Lt LtE Gt GtE Is IsNot In NotIn IfExp Call keyword Attribute
Subscript Slice Name Load Store Constant List Tuple Dict Set ListComp comprehension JoinedStr FormattedValue
""".split()
CALLS = """
len range enumerate zip min max sum abs sorted reversed int str bool list tuple dict set frozenset isinstance ord repr
any all divmod Exception ValueError TypeError KeyError IndexError LookupError ZeroDivisionError ArithmeticError
OverflowError RuntimeError NotImplementedError AttributeError StopIteration
""".split()
METHODS = """
append clear copy count endswith extend find get index insert isalnum isalpha isdigit islower isspace isupper items join
keys ljust lower lstrip partition pop remove replace reverse rfind rjust rpartition rsplit rstrip setdefault split
splitlines startswith strip update upper values zfill bit_length
""".split()
MAKERS = ["zip", "enumerate", "reversed", "range"]
VIEWS = ["items", "keys", "values"]
WALKERS = ["list", "tuple", "dict", "sorted", "sum", "any", "all", "enumerate", "zip", "min", "max"]
# Names of Python's own values that a method of the package's own may bear too (L26).
SHARED_NAMES = METHODS + ["add", "discard"]
PYTHONS_NAMES = {name for kind in [str, int, list, dict, set, bytes] for name in dir(kind)}
OWN_DOUBLE = ["__init__", "__eq__", "__repr__", "__str__", "__len__"]
UNUSED_NAMES = """
register mro elements open input version_info with_traceback add_note attrgetter breakpoint builtins compile copyright
credits delattr dir eval exec exit gc getattr globals hasattr help id importlib license locals methodcaller os quit
setattr super type vars sys format format_map
""".split()
UNUSED_WORDS = re.compile(
    r"\b(type|typing|typing_extensions|enum|Enum|IntEnum|StrEnum|Flag|IntFlag|Generic|Protocol|ABC|ABCMeta|namedtuple"
    r"|NamedTuple|TypedDict|TYPE_CHECKING|abstractmethod)\b|dataclass|overload|contextmanager"
)


def text_faults(text):
    """Faults that the bare text shows: signs, lengths, words."""
    faults = []
    rows = text.split("\n")
    if len(rows) > 401:
        faults.append("L10 file")
    for row in rows:
        if len(row) > 120:
            faults.append("L10 line")
        if any(not " " <= sign <= "~" for sign in row):
            faults.append("L14 sign")
        if UNUSED_WORDS.search(row):
            faults.append("L17 word")
    return faults


def bound_names(tree):
    """Every name that a file's code gives a meaning to, but for imports and the two-underscore methods."""
    names = []
    for node in ast.walk(tree):
        if isinstance(node, (ast.FunctionDef, ast.ClassDef)):
            names.append(node.name)
        elif isinstance(node, ast.arg):
            names.append(node.arg)
        elif isinstance(node, ast.ExceptHandler) and node.name:
            names.append(node.name)
        elif isinstance(node, (ast.Name, ast.Attribute)) and isinstance(node.ctx, ast.Store):
            names.append(node.id if isinstance(node, ast.Name) else node.attr)
    return [name for name in names if name not in OWN_DOUBLE]


def node_faults(node):
    """Faults of one node, whatever stands around it."""
    faults = []
    if type(node).__name__ not in NODES:
        faults.append("L6 L7 " + type(node).__name__)
    if isinstance(node, (ast.FunctionDef, ast.ClassDef)) and node.decorator_list:
        faults.append("L4 L5 decorator")
    if isinstance(node, ast.FunctionDef) and node.end_lineno - node.lineno + 1 > 40:
        faults.append("L10 function")
    if isinstance(node, ast.arguments) and (node.vararg or node.kwarg or node.kwonlyargs or node.posonlyargs):
        faults.append("L4 parameters")
    if isinstance(node, ast.Constant) and not (node.value is None or isinstance(node.value, (int, str))):
        faults.append("L7 value")
    if isinstance(node, ast.Constant) and isinstance(node.value, str) and "%" in node.value:
        faults.append("L27 text")
    if isinstance(node, ast.Assign) and len(node.targets) != 1:
        faults.append("L6 assignment")
    if isinstance(node, (ast.For, ast.While)) and node.orelse:
        faults.append("L6 else")
    if isinstance(node, ast.Try) and node.finalbody:
        faults.append("L6 finally")
    if isinstance(node, ast.ListComp) and (len(node.generators) != 1 or len(node.generators[0].ifs) > 1):
        faults.append("L7 comprehension")
    if isinstance(node, ast.ImportFrom):
        if node.level or not node.module.startswith("fencegate.") or any(a.name == "*" or a.asname for a in node.names):
            faults.append("L2 import")
    if isinstance(node, (ast.Name, ast.Attribute)):
        name = node.id if isinstance(node, ast.Name) else node.attr
        if name in UNUSED_NAMES:
            faults.append("L17 name " + name)
    return faults + part_faults(node)


def part_faults(node):
    """Faults of one node that its parts show: f-strings, `is`, powers, what is caught."""
    faults = []
    if isinstance(node, ast.FormattedValue):
        if not isinstance(node.value, ast.Name) or node.format_spec or node.conversion not in [-1, ord("r")]:
            faults.append("L7 f-string")
    if isinstance(node, ast.Compare):
        for op, right in zip(node.ops, node.comparators):
            plain = isinstance(right, ast.Constant) and (right.value is None or isinstance(right.value, bool))
            if isinstance(op, (ast.Is, ast.IsNot)) and not plain:
                faults.append("L20 is")
    if isinstance(node, ast.BinOp) and isinstance(node.op, ast.Pow) and not isinstance(node.right, ast.Constant):
        faults.append("L27 power")
    if isinstance(node, ast.ExceptHandler):
        if node.type is None or ast.unparse(node.type) in ["Exception", "TypeError"]:
            faults.append("L19 except")
    if isinstance(node, ast.Raise) and not isinstance(node.exc, ast.Call):
        faults.append("L19 raise")
    return faults


def class_uses(tree):
    """Faults of classes that are kept or handed on: each stands to be called, as a base, or to be caught."""
    classes = [node.name for node in tree.body if isinstance(node, ast.ClassDef)]
    for node in tree.body:
        if isinstance(node, ast.ImportFrom):
            classes.extend(part.name for part in node.names if part.name[0].isupper() and not part.name.isupper())
    faults = []
    for parent in ast.walk(tree):
        for node in ast.iter_child_nodes(parent):
            if isinstance(node, ast.Name) and node.id in classes:
                called = isinstance(parent, ast.Call) and parent.func is node
                if not called and not isinstance(parent, (ast.ClassDef, ast.ExceptHandler)):
                    faults.append("L18 class " + node.id)
    return faults


def class_faults(node):
    """Faults of a class: its bases and what stands in its body."""
    faults = []
    if len(node.bases) > 1 or node.keywords:
        faults.append("L5 bases")
    methods = [part.name for part in node.body if isinstance(part, ast.FunctionDef)]
    if len(methods) != len(set(methods)):
        faults.append("L18 method twice")
    for place, part in enumerate(node.body):
        remark = place == 0 and isinstance(part, ast.Expr) and isinstance(part.value, ast.Constant)
        if not remark and not isinstance(part, ast.FunctionDef):
            faults.append("L5 body")
    return faults


def call_name(node):
    """The plain name that a node calls; the empty text if it is no such call."""
    return node.func.id if isinstance(node, ast.Call) and isinstance(node.func, ast.Name) else ""


def walked_at_once(node, parent):
    """Whether a call that makes something to be walked stands where it is walked on the spot."""
    if isinstance(parent, (ast.For, ast.comprehension)):
        return parent.iter is node
    return call_name(parent) in WALKERS and parent.args[0] is node


def place_faults(tree):
    """Faults of calls by where they stand: what is to be walked at once, and sets."""
    faults = []
    for parent in ast.walk(tree):
        for node in ast.iter_child_nodes(parent):
            walked = isinstance(node, ast.Call) and isinstance(node.func, ast.Attribute) and node.func.attr in VIEWS
            if (walked or call_name(node) in MAKERS) and not walked_at_once(node, parent):
                faults.append("L23 walk")
            is_set = isinstance(node, ast.Set) or call_name(node) in ["set", "frozenset"]
            if is_set and not isinstance(parent, (ast.Compare, ast.BinOp)):
                if call_name(parent) not in ["sorted", "len"] or parent.keywords:
                    faults.append("L24 set")
    return faults


def local_faults(tree):
    """Faults of parameters and locals that are called like a class or an import of their file."""
    taken = [node.name for node in tree.body if isinstance(node, ast.ClassDef)]
    for node in tree.body:
        if isinstance(node, ast.ImportFrom):
            taken.extend(part.name for part in node.names)
    names = [node.arg for node in ast.walk(tree) if isinstance(node, ast.arg)]
    names += [node.id for node in ast.walk(tree) if isinstance(node, ast.Name) and isinstance(node.ctx, ast.Store)]
    return ["L15 local " + name for name in names if name in taken]


def top_faults(tree):
    """Faults at a file's top: what stands there, and names bound twice."""
    faults = []
    names = []
    for place, node in enumerate(tree.body):
        remark = place == 0 and isinstance(node, ast.Expr) and isinstance(node.value, ast.Constant)
        if not remark and not isinstance(node, (ast.ImportFrom, ast.FunctionDef, ast.ClassDef, ast.Assign)):
            faults.append("L3 top")
        if isinstance(node, (ast.FunctionDef, ast.ClassDef)):
            names.append(node.name)
        elif isinstance(node, ast.ImportFrom):
            names.extend(part.name for part in node.names)
        elif isinstance(node, ast.Assign):
            names.append(ast.unparse(node.targets[0]))
            inner = [part for part in ast.walk(node.value) if part is not node.value]
            if any(isinstance(part, (ast.List, ast.Dict, ast.Call, ast.ListComp)) for part in inner):
                faults.append("L15 value within a value")
    if len(names) != len(set(names)):
        faults.append("L15 name twice")
    return faults


def top_uses(tree):
    """Uses of a list or dict of a file's top other than an index, a walk, `in` or a copy."""
    kept = [ast.unparse(node.targets[0]) for node in tree.body
            if isinstance(node, ast.Assign) and isinstance(node.value, (ast.List, ast.Dict))]
    faults = []
    for parent in ast.walk(tree):
        for node in ast.iter_child_nodes(parent):
            if isinstance(node, ast.Name) and node.id in kept and isinstance(node.ctx, ast.Load):
                read = isinstance(parent, ast.Subscript) and isinstance(parent.ctx, ast.Load) and parent.value is node
                walked = isinstance(parent, (ast.For, ast.comprehension, ast.Compare))
                copied = call_name(parent) in ["list", "dict", "len", "sorted", "tuple"]
                looked_up = isinstance(parent, ast.Attribute) and parent.attr in ["get", "items", "keys", "values"]
                if not (read or walked or copied or looked_up):
                    faults.append("L15 use of " + node.id)
    return faults


def file_faults(text, own_names):
    """All faults of one file; own_names are the methods and values of the whole package."""
    tree = ast.parse(text)
    faults = text_faults(text) + top_faults(tree) + place_faults(tree) + local_faults(tree) + class_uses(tree)
    bound = bound_names(tree)
    for name in bound:
        if name.startswith("_") or not name.isascii():
            faults.append("L12 name " + name)
        if name in dir(builtins):
            faults.append("L15 name " + name)
    for node in ast.walk(tree):
        faults.extend(node_faults(node))
        if isinstance(node, ast.ClassDef):
            faults.extend(class_faults(node))
        if isinstance(node, ast.Name) and node.id in dir(builtins) and node.id not in CALLS:
            faults.append("L8 name " + node.id)
        if isinstance(node, ast.Attribute) and node.attr not in METHODS + OWN_DOUBLE + own_names:
            faults.append("L25 method " + node.attr)
    return faults


def methods_and_values(trees):
    """The names of all methods, and of all values that are given to objects, over several files."""
    methods = []
    values = []
    for tree in trees:
        for node in ast.walk(tree):
            if isinstance(node, ast.ClassDef):
                methods.extend(part.name for part in node.body if isinstance(part, ast.FunctionDef))
            if isinstance(node, ast.Attribute) and isinstance(node.ctx, ast.Store):
                values.append(node.attr)
    return methods, values


def drawn_from(tree):
    return [node.module for node in tree.body if isinstance(node, ast.ImportFrom)]


class ThePackage(unittest.TestCase):
    def setUp(self):
        self.texts = {path.stem: path.read_text(encoding="utf-8") for path in sorted(PACKAGE.glob("*.py"))}
        self.trees = {name: ast.parse(text) for name, text in self.texts.items()}

    def test_only_python_files_with_plain_names_lie_in_it(self):
        for path in PACKAGE.iterdir():
            if path.name != "__pycache__":
                self.assertRegex(path.name, r"^([a-z][a-z0-9_]*|__init__|__main__)\.py$")
        self.assertIn("__init__", self.texts)

    def test_every_file_keeps_to_the_form(self):
        methods, values = methods_and_values(self.trees.values())
        for name, text in self.texts.items():
            with self.subTest(file=name):
                self.assertEqual(file_faults(text, methods + values), [])

    def test_no_name_is_a_method_here_and_a_value_there(self):
        methods, values = methods_and_values(self.trees.values())
        self.assertEqual(set(methods) & set(values), set())

    def test_no_method_or_value_is_called_like_one_of_python_s_own(self):
        methods, values = methods_and_values(self.trees.values())
        taken = (PYTHONS_NAMES - set(SHARED_NAMES)) & set(methods) - set(OWN_DOUBLE)
        self.assertEqual(taken, set())
        self.assertEqual(PYTHONS_NAMES & set(values), set())

    def test_lists_and_dicts_of_a_files_top_are_only_read(self):
        for name, tree in self.trees.items():
            self.assertEqual(top_uses(tree), [], name)

    def test_names_are_drawn_from_the_file_that_defines_them(self):
        for name, tree in self.trees.items():
            for node in tree.body:
                if isinstance(node, ast.ImportFrom):
                    source = self.trees[node.module.removeprefix("fencegate.")]
                    defined = [part.name for part in source.body if isinstance(part, (ast.FunctionDef, ast.ClassDef))]
                    defined += [ast.unparse(part.targets[0]) for part in source.body if isinstance(part, ast.Assign)]
                    for part in node.names:
                        self.assertIn(part.name, defined, name)

    def test_no_two_files_draw_from_one_another(self):
        left = {name: [m.removeprefix("fencegate.") for m in drawn_from(tree)] for name, tree in self.trees.items()}
        while left:
            done = [name for name, sources in left.items() if not any(source in left for source in sources)]
            self.assertTrue(done, left)
            left = {name: sources for name, sources in left.items() if name not in done}

    def test_init_draws_from_nothing(self):
        self.assertEqual(drawn_from(self.trees["__init__"]), [])


class TheCheckItself(unittest.TestCase):
    def test_code_in_the_form_has_no_faults(self):
        for text in [
            'def least(numbers):\n    """Why."""\n    return min([n for n in numbers if n > 0], default=0)\n',
            "def f(a):\n    return [b for b, c in enumerate(a, start=1) if c in set(a)]\n",
            "def f(a):\n    return sorted(set(a)) + list(a.items()) + list(range(3))\n",
            "def f(a):\n    return f'{a} and {a!r}' if a is not None else str(a ** 2)\n",
            "def f(a):\n    return a\n\n\nWAYS = {'f': f, 'g': (1, 2)}\n\n\ndef g(a):\n    return WAYS[a]\n",
        ]:
            with self.subTest(text=text[:60]):
                self.assertEqual(file_faults(text, []), [])

    def test_code_outside_the_form_is_seen(self):
        inside = "def f(a):\n    "
        for text in [
            "import sys\n", "from os import path\n", "from . import keeper\n", "from fencegate.errors import *\n",
            "def f(*a):\n    return a\n", "def f(a):\n    return a / 2\n", "x = 1.5\n", "x = b''\n", "print(1)\n",
            inside + "return [x for y in a for x in y]\n", inside + "return sum(x for x in a)\n",
            inside + "return {x: 1 for x in a}\n", inside + "b = c = a\n", inside + "assert a\n", inside + "del a\n",
            inside + "return (b := a)\n", inside + "return open(a)\n", inside + "return chr(a)\n",
            inside + "a.sort()\n", "def f(a):\n\treturn a\n",
            inside + "for b in a:\n        pass\n    else:\n        pass\n", "def f(id):\n    return id\n",
            "def hidden(_a):\n    return 1\n", "x = 1\nx = 2\n", "# the type of it\n", "# caf\u00e9\n",
            "class A:\n    b = 1\n", "x = 'a % b'\n", "# " + "x" * 120 + "\n", "x = 1\n" * 401,
            "def f():\n" + "    f()\n" * 40, inside + "b = range(a)\n    return len(b)\n",
            inside + "return a.items()\n", inside + "b = set(a)\n", inside + "for b in set(a):\n        pass\n",
            inside + "return sorted(set(a), reverse=True)\n", "class A:\n    pass\n\n\ndef f(A):\n    return A\n",
            "from fencegate.paths import within\n\n\ndef f(a):\n    within = a\n    return within\n",
            inside + "return f'{a.b}'\n", inside + "return f'{a:3}'\n", inside + "return a is 3\n",
            inside + "return 2 ** a\n", inside + "try:\n        f(a)\n    except Exception:\n        pass\n",
            inside + "try:\n        f(a)\n    except:\n        pass\n", inside + "raise ValueError\n",
            "class A:\n    pass\n\n\ndef f():\n    return [A]\n", "x = {1: [2]}\n", "x = [len('a')]\n",
        ]:
            with self.subTest(text=text[:60]):
                self.assertNotEqual(file_faults(text, []), [])


    def test_a_list_of_a_files_top_that_is_handed_on_is_seen(self):
        start = "WAYS = [1, 2]\n\n\ndef f(a):\n    "
        for use in ["return WAYS\n", "WAYS.append(a)\n", "f(WAYS)\n", "WAYS[0] = a\n", "b = WAYS\n"]:
            self.assertNotEqual(top_uses(ast.parse(start + use)), [], use)
        for use in ["return WAYS[a]\n", "return list(WAYS)\n", "return a in WAYS\n", "return [b for b in WAYS]\n"]:
            self.assertEqual(top_uses(ast.parse(start + use)), [], use)


if __name__ == "__main__":
    unittest.main()
