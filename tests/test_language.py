"""What can be seen of the rules of ../shared/LANGUAGE.md in the package's own files."""

import ast
import builtins
import io
import os
import re
import tokenize
import unittest

PACKAGE = os.path.join(os.path.dirname(os.path.dirname(os.path.abspath(__file__))), "turnsigns")

NODES = set(
    "Module FunctionDef ClassDef Return Delete Assign AugAssign For While If Raise Try Assert ImportFrom Expr Pass "
    "Break Continue BoolOp BinOp UnaryOp Lambda IfExp Dict Set ListComp SetComp DictComp Compare Call FormattedValue "
    "JoinedStr Constant Attribute Subscript Starred Name List Tuple Slice Load Store Del And Or Add Sub Mult Mod Pow "
    "LShift RShift BitOr BitXor BitAnd FloorDiv Invert Not UAdd USub Eq NotEq Lt LtE Gt GtE Is IsNot In NotIn "
    "comprehension ExceptHandler arguments arg keyword alias".split()
)
OWN_NAMES = set(
    "len range enumerate zip min max sum abs sorted reversed int str bool bytes list tuple dict set frozenset "
    "isinstance ord repr any all divmod Exception ValueError TypeError KeyError IndexError LookupError "
    "ZeroDivisionError ArithmeticError OverflowError RuntimeError NotImplementedError AttributeError "
    "StopIteration".split()
)
TOP_NODES = (ast.Expr, ast.ImportFrom, ast.FunctionDef, ast.ClassDef, ast.Assign)
METHODS = {"__init__", "__eq__", "__repr__", "__str__", "__len__"}
WORDS_OUT = re.compile(
    r"\b(type|typing|typing_extensions|enum|Enum|IntEnum|StrEnum|Flag|IntFlag|Generic|Protocol|ABC|ABCMeta|namedtuple"
    r"|NamedTuple|TypedDict|TYPE_CHECKING|abstractmethod)\b|dataclass|overload|contextmanager"
)
NAMES_OUT = set(
    "register mro elements open input version_info with_traceback add_note attrgetter breakpoint builtins compile "
    "copyright credits delattr dir eval exec exit gc getattr globals hasattr help id importlib license locals "
    "methodcaller os quit setattr super sys vars format format_map chr print".split()
)

OWN_METHODS = set(
    "append clear copy count endswith extend find get index insert isalnum isalpha isdigit islower isspace isupper items "
    "join keys ljust lower lstrip partition pop remove replace reverse rfind rjust rpartition rsplit rstrip setdefault "
    "split splitlines startswith strip update upper values zfill bit_length".split()
)


def bound_names(tree):
    """Each name that is given, with its row, and of parameters and defs too."""
    for node in ast.walk(tree):
        if isinstance(node, ast.Name) and not isinstance(node.ctx, ast.Load):
            yield node.id, node.lineno
        elif isinstance(node, ast.arg):
            yield node.arg, node.lineno
        elif isinstance(node, (ast.FunctionDef, ast.ClassDef)):
            yield node.name, node.lineno


def faults_of_text(text):
    """Rows of a file that break a rule on signs, words and sizes."""
    rows = text.split("\n")
    if len(rows) > 401:
        yield "L10 too many rows"
    for at, row in enumerate(rows, 1):
        if len(row) > 120:
            yield f"L10 row {at} is too long"
        if any(not " " <= sign <= "~" for sign in row):
            yield f"L14 row {at} has another sign"
        if WORDS_OUT.search(row):
            yield f"L17 row {at} has a word that is out"
    for token in tokenize.generate_tokens(io.StringIO(text).readline):
        if token.type == tokenize.STRING and "%" in token.string:
            yield f"L27 row {token.start[0]} has a sign that is out"


def faults_of_top(tree):
    for node in tree.body:
        if not isinstance(node, TOP_NODES):
            yield f"L3 row {node.lineno}"
    drawn = [alias.name for node in tree.body if isinstance(node, ast.ImportFrom) for alias in node.names]
    given = [node.name for node in tree.body if isinstance(node, (ast.FunctionDef, ast.ClassDef))]
    given += [target.id for node in tree.body if isinstance(node, ast.Assign) for target in node.targets]
    if len(set(drawn + given)) != len(drawn + given):
        yield "L15 a name is bound twice at the top"
    classes = [node.name for node in tree.body if isinstance(node, ast.ClassDef)]
    for node in ast.walk(tree):
        if isinstance(node, ast.FunctionDef):
            inner = {name for part in [node.args] + node.body for name, row in bound_names(part)}
            for name in inner & set(drawn + classes):
                yield f"L15 row {node.lineno}: {name}"


def faults_of_names(tree):
    for name, row in bound_names(tree):
        if name.startswith("_") and name not in METHODS:
            yield f"L12 row {row}: {name}"
        if hasattr(builtins, name) and name not in METHODS:
            yield f"L15 row {row}: {name}"
    for node in ast.walk(tree):
        if isinstance(node, ast.Name) and hasattr(builtins, node.id) and node.id not in OWN_NAMES:
            yield f"L8 row {node.lineno}: {node.id}"
        name = getattr(node, "id", getattr(node, "attr", getattr(node, "arg", getattr(node, "name", None))))
        if name in NAMES_OUT:
            yield f"L17 {name}"


def is_single(node):
    """Whether it is a written None, True or False; 1 == True, but 1 is none of them."""
    return isinstance(node, ast.Constant) and (node.value is None or isinstance(node.value, bool))


def faults_of_node(node):
    kind = node.__class__.__name__
    if kind not in NODES:
        yield f"L6 or L7: {kind}"
    if isinstance(node, ast.FunctionDef):
        if node.end_lineno - node.lineno >= 40:
            yield f"L10 {node.name} is too long"
        if node.decorator_list or node.args.vararg or node.args.kwarg or node.args.posonlyargs:
            yield f"L4 {node.name}"
    if isinstance(node, ast.ClassDef) and (node.decorator_list or len(node.bases) > 1 or node.keywords):
        yield f"L5 {node.name}"
    if isinstance(node, ast.ImportFrom):
        drawn = [alias.name for alias in node.names]
        if node.level or not node.module.startswith("turnsigns.") or "*" in drawn:
            yield f"L2 row {node.lineno}"
    if isinstance(node, ast.Constant) and isinstance(node.value, (float, complex)):
        yield f"L7 row {node.lineno}"
    if isinstance(node, (ast.For, ast.While)) and node.orelse:
        yield f"L6 row {node.lineno}"
    if isinstance(node, ast.Compare) and any(isinstance(sign, (ast.Is, ast.IsNot)) for sign in node.ops):
        if not all(is_single(side) for side in node.comparators):
            yield f"L20 row {node.lineno}"
    if isinstance(node, ast.Raise) and node.exc is not None:
        if not isinstance(node.exc, ast.Call) or not isinstance(node.exc.func, ast.Name):
            yield f"L19 row {node.lineno}"


def faults_of_attributes(tree):
    """What is asked of a thing: a method of Python's own, or what a class of the file gives."""
    classes = [node for node in tree.body if isinstance(node, ast.ClassDef)]
    methods = {part.name for node in classes for part in node.body if isinstance(part, ast.FunctionDef)}
    attributes = [node for node in ast.walk(tree) if isinstance(node, ast.Attribute)]
    values = {node.attr for node in attributes if isinstance(node.ctx, ast.Store)}
    called = {id(node.func) for node in ast.walk(tree) if isinstance(node, ast.Call)}
    if methods & values:
        yield f"L18 {methods & values}"
    for node in attributes:
        if id(node) in called and node.attr not in OWN_METHODS | methods:
            yield f"L25 row {node.lineno}: {node.attr}"
        if id(node) not in called and node.attr not in values:
            yield f"L18 row {node.lineno}: {node.attr}"


def drawn_of(tree):
    """Each name that a file draws, with the module it is drawn from."""
    rows = [node for node in tree.body if isinstance(node, ast.ImportFrom)]
    return [(row.module.rpartition(".")[2], alias.name) for row in rows for alias in row.names]


def own_names(tree):
    """The names that a file defines itself at its top."""
    told = {node.name for node in tree.body if isinstance(node, (ast.FunctionDef, ast.ClassDef))}
    return told | {target.id for node in tree.body if isinstance(node, ast.Assign) for target in node.targets}


def faults_of_imports(trees):
    """Names that are drawn from a file that doesn't define them, and files that draw from one another."""
    for name, tree in trees.items():
        for module, drawn in drawn_of(tree):
            if module not in trees or drawn not in own_names(trees[module]):
                yield f"L16 {name}: {drawn}"
    ahead = {name: {module for module, drawn in drawn_of(tree)} for name, tree in trees.items()}
    while ahead:
        free = [name for name in ahead if not ahead[name] & set(ahead)]
        if not free:
            yield f"L16 a circle among {sorted(ahead)}"
            return
        ahead = {name: modules for name, modules in ahead.items() if name not in free}


def faults_of(text):
    """All that is seen to break a rule in a file's text."""
    tree = ast.parse(text)
    told = list(faults_of_text(text)) + list(faults_of_top(tree)) + list(faults_of_names(tree))
    told += list(faults_of_attributes(tree))
    for node in ast.walk(tree):
        told.extend(faults_of_node(node))
    return told


def package_texts():
    """The text of each file of the package, by its name without the ending."""
    told = {}
    for name in sorted(os.listdir(PACKAGE)):
        if name.endswith(".py"):
            with open(os.path.join(PACKAGE, name), encoding="utf-8") as file:
                told[name[:-3]] = file.read()
    return told


class Language(unittest.TestCase):
    def test_just_python_files_with_plain_names_lie_in_the_package(self):
        names = sorted(name for name in os.listdir(PACKAGE) if name != "__pycache__")
        self.assertIn("__init__.py", names)
        for name in names:
            self.assertRegex(name, r"^(__init__|[a-z][a-z0-9_]*)\.py$")

    def test_each_file_keeps_to_the_rules(self):
        for name, text in package_texts().items():
            self.assertEqual(faults_of(text), [], name)

    def test_names_are_drawn_from_where_they_stand_and_no_files_from_one_another(self):
        trees = {name: ast.parse(text) for name, text in package_texts().items()}
        self.assertEqual(list(faults_of_imports(trees)), [])
        circle = {"a": ast.parse("from p.b import f\ng = 1\n"), "b": ast.parse("from p.a import g\nf = 1\n")}
        self.assertNotEqual(list(faults_of_imports(circle)), [])
        elsewhere = {"a": ast.parse("f = 1\n"), "b": ast.parse("from p.a import f\n")}
        self.assertEqual(list(faults_of_imports(elsewhere)), [])
        elsewhere["c"] = ast.parse("from p.b import f\n")
        self.assertNotEqual(list(faults_of_imports(elsewhere)), [])

    def test_the_look_finds_what_is_out(self):
        wrong = (
            "import os\n",
            "from turnsigns.errors import *\n",
            "def f(xs):\n    return all(x for x in xs)\n",
            "def f(*xs):\n    return xs\n",
            "def f(x):\n    return x / 2\n",
            "def f(x):\n    return x * 0.5\n",
            "def f(list):\n    return list\n",
            "def f(x):\n    return hash(x)\n",
            "def f(x):\n    return print(x)\n",
            "def f(x):\n    _y = x\n",
            "def f(x):\n    # its type\n    return x\n",
            'NAME = "5%"\n',
            "NAME = 1\nNAME = 2\n",
            "from turnsigns.tables import is_table\n\n\ndef f(is_table):\n    return is_table\n",
            "def f(x):\n" + "    x += 1\n" * 40,
            "def f(x, y):\n    return x is y\n",
            "def f(x):\n    return x is 1\n",
            "def f(x):\n    raise x\n",
            "def f(x):\n    return x.union(x)\n",
            "def f(x):\n    return x.many\n",
            "class A:\n    def say(self):\n        self.say = 1\n",
        )
        for text in wrong:
            self.assertNotEqual(faults_of(text), [], text)


if __name__ == "__main__":
    unittest.main()
