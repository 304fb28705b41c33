"""Asks the package's files for the rules of LANGUAGE.md that a look at the code can see."""

import ast
import builtins
import pathlib
import re
import unittest

PACKAGE = pathlib.Path(__file__).resolve().parent.parent / "roundcede"

OWN_NAMES = set(
    "len range enumerate zip min max sum abs sorted reversed int str bool list tuple dict set frozenset isinstance "
    "ord repr any all divmod Exception ValueError TypeError KeyError IndexError LookupError ZeroDivisionError "
    "ArithmeticError OverflowError RuntimeError NotImplementedError AttributeError StopIteration".split()
)
METHODS = set(
    "append clear copy count endswith extend find get index insert isalnum isalpha isdigit islower isspace isupper "
    "items join keys ljust lower lstrip partition pop remove replace reverse rfind rjust rpartition rsplit rstrip "
    "setdefault split splitlines startswith strip update upper values zfill bit_length".split()
)
BANNED_WORDS = set(
    "type typing typing_extensions enum Enum IntEnum StrEnum Flag IntFlag Generic Protocol ABC ABCMeta namedtuple "
    "NamedTuple TypedDict TYPE_CHECKING abstractmethod".split()
)
BANNED_PARTS = ("dataclass", "overload", "contextmanager")
BANNED_NAMES = set("register mro elements open input version_info with_traceback add_note format format_map".split())
WALKED = ("zip", "enumerate", "reversed", "range")
WALKERS = ("list", "tuple", "dict", "sorted", "sum", "any", "all", "enumerate", "zip", "min", "max", "join")
TWO_UNDERSCORES = set("__init__ __eq__ __repr__ __str__ __len__".split())
NODES = set(
    "Module Expr ImportFrom alias FunctionDef arguments arg Lambda ClassDef Assign AugAssign If While For Return Break "
    "Continue Pass Raise Try ExceptHandler Constant List Tuple Dict Set BinOp UnaryOp BoolOp Compare IfExp Call "
    "keyword Attribute Subscript Slice ListComp comprehension JoinedStr FormattedValue Name Load Store "
    "Add Sub Mult FloorDiv Mod Pow BitAnd BitOr BitXor LShift RShift USub UAdd Invert Not And Or "
    "Eq NotEq Lt LtE Gt GtE In NotIn Is IsNot".split()
)


def text_faults(text):
    rows = text.split("\n")
    faults = []
    if len(rows) > 401:
        faults.append("L10: more than 400 rows")
    for number, row in enumerate(rows, 1):
        if len(row) > 120:
            faults.append(f"L10: row {number} is too long")
        if not all(" " <= sign <= "~" for sign in row):
            faults.append(f"L14: row {number} has another sign")
    for word in re.findall(r"\w+", text):
        if word in BANNED_WORDS or any(part in word for part in BANNED_PARTS):
            faults.append(f"L17: the word {word}")
    return faults


def names_of(node):
    """Tells the names that a node binds, reads or asks for."""
    found = []
    for field in ("id", "attr", "name", "arg", "asname"):
        value = getattr(node, field, None)
        if isinstance(value, str):
            found.append(value)
    return found


def name_faults(node):
    faults = []
    for name in names_of(node):
        if isinstance(node, ast.alias) or name in TWO_UNDERSCORES:
            continue
        if name.startswith("_"):
            faults.append(f"L12: {name}")
        if name in BANNED_NAMES:
            faults.append(f"L17: {name}")
        asked = isinstance(node, ast.Name) and isinstance(node.ctx, ast.Load)
        if asked and hasattr(builtins, name) and name not in OWN_NAMES:
            faults.append(f"L8: {name}")
        bound = isinstance(node, ast.arg) or isinstance(node, ast.Name) and isinstance(node.ctx, ast.Store)
        if bound and hasattr(builtins, name):
            faults.append(f"L15: {name}")
    return faults


def function_faults(node):
    faults = []
    if node.end_lineno - node.lineno + 1 > 40:
        faults.append(f"L10: {node.name} has more than 40 rows")
    asked = node.args
    if node.decorator_list or asked.vararg or asked.kwarg or asked.kwonlyargs or asked.posonlyargs:
        faults.append(f"L4: {node.name}")
    return faults


def class_faults(node):
    faults = []
    if node.decorator_list or node.keywords or len(node.bases) > 1:
        faults.append(f"L5: {node.name}")
    for inner in node.body:
        if not isinstance(inner, (ast.FunctionDef, ast.Pass)):
            faults.append(f"L5: {node.name} holds more than methods")
    return faults


def import_faults(node):
    parts = (node.module or "").split(".")
    if node.level != 0 or parts[0] != "roundcede" or len(parts) != 2:
        return [f"L2: {node.module}"]
    source = PACKAGE / (parts[1] + ".py")
    defined = []
    for inner in ast.parse(source.read_text()).body:
        defined += [target.id for target in getattr(inner, "targets", [])] + [getattr(inner, "name", None)]
    return [f"L16: {one.name}" for one in node.names if one.name not in defined]


def value_faults(node):
    faults = []
    if isinstance(node, ast.Constant):
        if node.value is not None and not isinstance(node.value, (bool, int, str)):
            faults.append(f"L7: {node.value}")
        if isinstance(node.value, str) and "%" in node.value:
            faults.append("L27: a text with the sign of L27")
    if isinstance(node, ast.Assign) and len(node.targets) != 1:
        faults.append("L6: several targets")
    if isinstance(node, ast.FormattedValue):
        if not isinstance(node.value, ast.Name) or node.conversion not in (-1, ord("r")) or node.format_spec:
            faults.append("L7: an f-string that is not plain")
    if isinstance(node, ast.BinOp) and isinstance(node.op, ast.Pow) and not isinstance(node.right, ast.Constant):
        faults.append("L27: an exponent that is not written")
    if isinstance(node, (ast.For, ast.While)) and node.orelse or isinstance(node, ast.Try) and node.finalbody:
        faults.append("L6: else behind a loop, or finally")
    if isinstance(node, ast.ListComp) and (len(node.generators) > 1 or len(node.generators[0].ifs) > 1):
        faults.append("L7: a long comprehension")
    if isinstance(node, ast.Compare) and any(isinstance(one, (ast.Is, ast.IsNot)) for one in node.ops):
        sides = [node.left] + node.comparators
        if not any(isinstance(one, ast.Constant) and one.value in (None, True, False) for one in sides):
            faults.append("L20: is")
    return faults


def spread_faults(tree):
    """What must be walked at once, and classes, which are called, raised, taken or a base alone."""
    classes = {one.name for one in tree.body if isinstance(one, ast.ClassDef)}
    for node in tree.body:
        if isinstance(node, ast.ImportFrom):
            classes.update(one.name for one in node.names if one.name[0].isupper() and not one.name.isupper())
    around = {inner: node for node in ast.walk(tree) for inner in ast.iter_child_nodes(node)}
    faults = []
    for node in ast.walk(tree):
        outer = around.get(node)
        called = getattr(getattr(outer, "func", None), "id", getattr(getattr(outer, "func", None), "attr", None))
        if isinstance(node, ast.Call) and getattr(node.func, "id", None) in WALKED:
            walked = isinstance(outer, (ast.For, ast.comprehension)) and outer.iter is node
            if not walked and called not in WALKERS:
                faults.append(f"L23: {node.func.id}")
        if isinstance(node, ast.Name) and node.id in classes:
            fine = isinstance(outer, (ast.ClassDef, ast.ExceptHandler, ast.Attribute)) or called == "isinstance"
            if not fine and not (isinstance(outer, ast.Call) and outer.func is node):
                faults.append(f"L18: {node.id}")
        if isinstance(node, ast.Raise) and not isinstance(node.exc, ast.Call):
            faults.append("L19: an error that is not made on the spot")
        if isinstance(node, ast.ExceptHandler) and getattr(node.type, "id", "Exception") in ("Exception", "TypeError"):
            faults.append("L19: except")
    return faults


def top_faults(tree):
    """A name is bound once at a file's top, and a list or dict there holds none itself."""
    bound, faults = [], []
    for node in tree.body:
        if isinstance(node, ast.ImportFrom):
            bound += [one.asname or one.name for one in node.names]
        bound += [target.id for target in getattr(node, "targets", [])] + [getattr(node, "name", None)]
        if isinstance(node, ast.Assign):
            inner = [one for one in ast.walk(node.value) if one is not node.value]
            if any(isinstance(one, (ast.List, ast.Dict, ast.Set, ast.Call, ast.BinOp)) for one in inner):
                faults.append("L15: a list or dict within another")
            if isinstance(node.value, (ast.Call, ast.BinOp, ast.Set, ast.ListComp)):
                faults.append("L3: no plain value")
        elif not isinstance(node, (ast.ImportFrom, ast.FunctionDef, ast.ClassDef, ast.Expr)):
            faults.append("L3: something is done at the top")
    names = [name for name in bound if name is not None]
    return faults + [f"L15: {name} is bound twice" for name in set(names) if names.count(name) > 1]


def method_and_value_faults(texts):
    """No name is a method in one class and a value in another."""
    methods, values = set(), set()
    for text in texts:
        for node in ast.walk(ast.parse(text)):
            if isinstance(node, ast.ClassDef):
                methods.update(one.name for one in node.body if isinstance(one, ast.FunctionDef))
            if isinstance(node, ast.Attribute) and isinstance(node.ctx, ast.Store):
                values.add(node.attr)
    return [f"L18: {name}" for name in sorted(methods & values)]


def local_faults(tree):
    """No parameter and no local is called like a class or an import of its file."""
    taken = set()
    for node in tree.body:
        if isinstance(node, ast.ImportFrom):
            taken.update(one.asname or one.name for one in node.names)
        if isinstance(node, ast.ClassDef):
            taken.add(node.name)
    faults = []
    for node in ast.walk(tree):
        bound = isinstance(node, ast.arg) or isinstance(node, ast.Name) and isinstance(node.ctx, ast.Store)
        name = getattr(node, "arg", getattr(node, "id", None))
        if bound and name in taken:
            faults.append(f"L15: {name}")
    return faults


def drawn_from(text):
    return [node.module.split(".")[1] for node in ast.walk(ast.parse(text)) if isinstance(node, ast.ImportFrom)]


def ring_faults(drawn):
    """No two files draw from one another, in whatever many steps."""
    faults = []
    for start in drawn:
        found, waiting = set(), list(drawn[start])
        while waiting:
            one = waiting.pop()
            if one not in found:
                found.add(one)
                waiting += drawn[one]
        if start in found:
            faults.append(f"L16: {start}")
    return faults


def tree_faults(text, own):
    tree = ast.parse(text)
    faults = local_faults(tree) + top_faults(tree) + spread_faults(tree)
    for node in ast.walk(tree):
        if node.__class__.__name__ not in NODES:
            faults.append(f"L6 or L7: {node.__class__.__name__}")
        faults += name_faults(node) + value_faults(node)
        if isinstance(node, ast.FunctionDef):
            faults += function_faults(node)
        if isinstance(node, ast.ClassDef):
            faults += class_faults(node)
        if isinstance(node, ast.ImportFrom):
            faults += import_faults(node)
            if node not in tree.body:
                faults.append("L2: an import that is not at the top")
        if isinstance(node, ast.Attribute) and node.attr not in METHODS | own | TWO_UNDERSCORES:
            faults.append(f"L25: {node.attr}")
    return faults


def own_attributes(texts):
    """Tells the names that the package's classes give to their methods and values."""
    own = set()
    for text in texts:
        for node in ast.walk(ast.parse(text)):
            if isinstance(node, ast.FunctionDef):
                own.add(node.name)
            if isinstance(node, ast.Attribute) and isinstance(node.ctx, ast.Store):
                own.add(node.attr)
    return own


def files():
    return sorted(PACKAGE.rglob("*.py"))


class Form(unittest.TestCase):
    def test_the_folder_holds_python_files_alone(self):
        for one in PACKAGE.rglob("*"):
            if "__pycache__" not in one.parts:
                self.assertTrue(one.is_file(), one)
                self.assertRegex(one.name, r"^([a-z][a-z0-9_]*|__init__|__main__)\.py$")
        self.assertIn(PACKAGE / "__init__.py", files())

    def test_each_file_keeps_to_the_rules(self):
        own = own_attributes([one.read_text() for one in files()])
        for one in files():
            with self.subTest(file=one.name):
                text = one.read_bytes().decode("ascii")
                self.assertEqual(text_faults(text) + tree_faults(text, own), [])

    def test_no_name_is_a_method_and_a_value(self):
        self.assertEqual(method_and_value_faults([one.read_text() for one in files()]), [])

    def test_no_two_files_draw_from_one_another(self):
        self.assertEqual(ring_faults({one.stem: drawn_from(one.read_text()) for one in files()}), [])


class FormIsSeen(unittest.TestCase):
    def test_code_outside_the_rules_is_found(self):
        for text in (
            "import time\n", "from time import time\n", "from . import exact\n", "from roundcede.exact import none\n",
            "from roundcede import exact\n", "x = 1 / 2\n", "x = 0.5\n", "x = b'a'\n", "x = {1: 2 for y in z}\n",
            "x = open('a')\n", "x = chr(65)\n", "def f(*a):\n    pass\n", "def f():\n    import time\n",
            "def _f():\n    pass\n", "def f(id):\n    pass\n", "x = y = 1\n", "x = a is b\n", "x = a.sort()\n",
            "assert x\n", "x = '%'\n", "class A:\n    x = 1\n", "x = [a for a in b for c in d]\n",
            "with a:\n    pass\n", "from roundcede.exact import less\ndef f(less):\n    pass\n",
            "class A:\n    def f(self, A):\n        pass\n",
            "from roundcede.exact import less\ndef f():\n    for less in a:\n        pass\n",
            "def f():\n" + "    pass\n" * 40, "for a in b:\n    pass\nelse:\n    pass\n",
            "def f(a):\n    return f'{a[0]}'\n", "def f(a):\n    return f'{a:3}'\n", "def f(a):\n    return 2 ** a\n",
            "x = 1\nx = 2\n", "x = {1: [2]}\n", "x = [a for a in b]\n", "def f(a):\n    b = zip(a, a)\n    return b\n",
            "class A:\n    pass\ndef f():\n    return [A]\n", "def f(e):\n    raise e\n", "f()\nif f:\n    pass\n",
            "def f(g):\n    try:\n        g()\n    except Exception:\n        pass\n",
        ):
            with self.subTest(text=text):
                self.assertNotEqual(tree_faults(text, set()), [])

    def test_texts_outside_the_rules_are_found(self):
        for text in ("\t\n", "# \u00e9\n", "#" * 121 + "\n", "x\n" * 401, "# a type\n", "# mydataclasses\n", "x\r\n"):
            with self.subTest(text=text[:20]):
                self.assertNotEqual(text_faults(text), [])

    def test_a_name_that_is_a_method_and_a_value_is_found(self):
        one = "class A:\n    def f(self):\n        self.g = 1\n"
        self.assertEqual(method_and_value_faults([one]), [])
        self.assertEqual(method_and_value_faults([one, "class B:\n    def g(self):\n        pass\n"]), ["L18: g"])

    def test_files_that_draw_from_one_another_are_found(self):
        self.assertEqual(ring_faults({"a": ["b"], "b": ["c"], "c": []}), [])
        self.assertEqual(ring_faults({"a": ["b"], "b": ["c"], "c": ["b"]}), ["L16: b", "L16: c"])

    def test_plain_code_is_let_through(self):
        text = "def f(a):\n    return [b for b in sorted(set(a)) if b is not None]\n"
        self.assertEqual(text_faults(text) + tree_faults(text, set()), [])


if __name__ == "__main__":
    unittest.main()
