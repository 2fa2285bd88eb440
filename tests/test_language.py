"""The package keeps to LANGUAGE.md, as far as a walk through its files can see."""

import ast
import builtins
import pathlib
import re
import unittest

PACKAGE = pathlib.Path(__file__).resolve().parent.parent / "bassfilled"
FILES = sorted(PACKAGE.rglob("*.py"))
STATEMENTS = (ast.Assign, ast.AugAssign, ast.If, ast.While, ast.For, ast.Return, ast.Break, ast.Continue, ast.Pass,
              ast.Raise, ast.Try, ast.Expr, ast.FunctionDef, ast.ClassDef, ast.ImportFrom)
EXPRESSIONS = (ast.BoolOp, ast.BinOp, ast.UnaryOp, ast.Lambda, ast.IfExp, ast.Dict, ast.Set, ast.ListComp,
               ast.Compare, ast.Call, ast.JoinedStr, ast.FormattedValue, ast.Constant, ast.Attribute, ast.Subscript,
               ast.Name, ast.List, ast.Tuple, ast.Slice)
OWN_OF_PYTHON = set("""len range enumerate zip min max sum abs sorted reversed int str bool list tuple dict set frozenset
    isinstance ord repr any all divmod Exception ValueError TypeError KeyError IndexError LookupError ZeroDivisionError
    ArithmeticError OverflowError RuntimeError NotImplementedError AttributeError StopIteration""".split())
METHODS = set("""append clear copy count endswith extend find get index insert isalnum isalpha isdigit islower isspace
    isupper items join keys ljust lower lstrip partition pop remove replace reverse rfind rjust rpartition rsplit rstrip
    setdefault split splitlines startswith strip update upper values zfill bit_length""".split())
WORDS = """type typing typing_extensions enum Enum IntEnum StrEnum Flag IntFlag Generic Protocol ABC ABCMeta namedtuple
    NamedTuple TypedDict TYPE_CHECKING abstractmethod""".split()
NEVER = set("""register mro elements open input version_info with_traceback add_note attrgetter breakpoint builtins
    compile copyright credits delattr dir eval exec exit gc getattr globals hasattr help id importlib license locals
    methodcaller os quit setattr super type vars sys chr print format format_map""".split())
NO_VALUES = set("""items keys values pop update append clear extend insert remove reverse setdefault sort args encode
    format real imag numerator denominator""".split())


def is_plain(node):
    if isinstance(node, ast.Constant):
        return node.value is None or type(node.value) in (int, str, bool)
    if isinstance(node, ast.UnaryOp):
        return isinstance(node.op, ast.USub) and is_plain(node.operand)
    if isinstance(node, (ast.Tuple, ast.List)):
        return all(is_plain(part) for part in node.elts)
    if isinstance(node, ast.Dict):
        return all(is_plain(part) for part in list(node.keys) + node.values)
    return isinstance(node, ast.Name)


def defined(tree):
    found = []
    for node in tree.body:
        if isinstance(node, (ast.FunctionDef, ast.ClassDef)):
            found.append(node.name)
        elif isinstance(node, ast.Assign):
            found.extend(target.id for target in node.targets if isinstance(target, ast.Name))
    return found


def drawn(tree):
    return [alias.name for node in tree.body if isinstance(node, ast.ImportFrom) for alias in node.names]


def bound_within(tree):
    found = []
    for node in ast.walk(tree):
        if isinstance(node, ast.arg):
            found.append(node.arg)
        elif isinstance(node, ast.Name) and isinstance(node.ctx, ast.Store):
            found.append(node.id)
    return found


def methods_and_values(trees):
    methods = set()
    values = set()
    for tree in trees:
        for node in ast.walk(tree):
            if isinstance(node, ast.ClassDef):
                methods.update(part.name for part in node.body if isinstance(part, ast.FunctionDef))
            if isinstance(node, ast.Attribute) and isinstance(node.ctx, ast.Store):
                values.add(node.attr)
    return methods, values


def wrong_text(text):
    lines = text.split("\n")
    if re.search(r"[^ -~\n]", text):
        yield "L14 sign"
    if len(lines) > 401 or max(len(line) for line in lines) > 120:
        yield "L10 size of the file or of a line"
    for word in WORDS:
        if re.search(r"\b%s\b" % word, text):
            yield "L17 word " + word
    if re.search("dataclass|overload|contextmanager", text):
        yield "L17 word within a word"


def wrong_top(tree):
    for node in tree.body[1 if ast.get_docstring(tree) else 0:]:
        if not isinstance(node, (ast.ImportFrom, ast.FunctionDef, ast.ClassDef, ast.Assign)):
            yield "L3 statement at the top"
        elif isinstance(node, ast.Assign) and not is_plain(node.value):
            yield "L3 value at the top"
    names = defined(tree) + drawn(tree)
    if len(names) != len(set(names)):
        yield "L15 bound twice"
    for node in ast.walk(tree):
        if isinstance(node, (ast.ImportFrom, ast.ClassDef)) and node not in tree.body:
            yield "L2, L15 import or class within"


def wrong_form(node):
    if isinstance(node, ast.stmt) and not isinstance(node, STATEMENTS):
        yield "L6 statement"
    if isinstance(node, (ast.For, ast.While)) and node.orelse or isinstance(node, ast.Try) and node.finalbody:
        yield "L6 else or finally"
    if isinstance(node, ast.Assign) and len(node.targets) != 1:
        yield "L6 targets"
    if isinstance(node, ast.expr) and not isinstance(node, EXPRESSIONS) or isinstance(node, (ast.Div, ast.MatMult)):
        yield "L7 expression"
    if isinstance(node, ast.Constant) and isinstance(node.value, (float, complex, bytes)):
        yield "L7 value"
    if isinstance(node, ast.ListComp) and (len(node.generators) != 1 or len(node.generators[0].ifs) > 1):
        yield "L7 comprehension"
    if isinstance(node, ast.Compare) and isinstance(node.ops[0], (ast.Is, ast.IsNot)):
        if not any(getattr(node.comparators[0], "value", 0) is one for one in (None, True, False)):
            yield "L20 is"


def wrong_definition(node):
    if isinstance(node, (ast.FunctionDef, ast.ClassDef)) and node.decorator_list:
        yield "L4, L5 decorator"
    if isinstance(node, ast.FunctionDef) and node.end_lineno - node.lineno >= 40:
        yield "L10 size of a function"
    if isinstance(node, ast.arguments) and (node.vararg or node.kwarg or node.kwonlyargs or node.posonlyargs):
        yield "L4 parameters"
    if isinstance(node, ast.ClassDef):
        if len(node.bases) > 1 or any(isinstance(part, (ast.Assign, ast.AnnAssign)) for part in node.body):
            yield "L5 class"


def wrong_names(tree, methods, values):
    own = defined(tree) + bound_within(tree)
    for name in own:
        if not re.fullmatch(r"[A-Za-z][A-Za-z0-9_]*", name):
            yield "L12 name " + name
        if name in dir(builtins):
            yield "L8, L15 name " + name
    taken = drawn(tree) + [node.name for node in tree.body if isinstance(node, ast.ClassDef)]
    for name in sorted(set(taken) & set(bound_within(tree))):
        yield "L15 local " + name
    known = set(own) | set(drawn(tree)) | OWN_OF_PYTHON
    for node in ast.walk(tree):
        if isinstance(node, ast.Name) and (node.id not in known or node.id in NEVER):
            yield "L8, L17 name " + node.id
        if isinstance(node, ast.Attribute):
            if node.attr in NEVER or node.attr not in METHODS | methods | values:
                yield "L17, L25 method or value " + node.attr


def complaints(text, methods, values):
    tree = ast.parse(text)
    found = list(wrong_text(text)) + list(wrong_top(tree)) + list(wrong_names(tree, methods, values))
    for node in ast.walk(tree):
        for complaint in list(wrong_form(node)) + list(wrong_definition(node)):
            found.append("%s, line %s" % (complaint, getattr(node, "lineno", "?")))
    return found


class Language(unittest.TestCase):
    def setUp(self):
        self.texts = {path.stem: path.read_text("utf-8") for path in FILES}
        self.trees = {stem: ast.parse(text) for stem, text in self.texts.items()}
        self.methods, self.values = methods_and_values(self.trees.values())

    def test_files(self):
        self.assertIn(PACKAGE / "__init__.py", FILES)
        for path in PACKAGE.rglob("*"):
            if "__pycache__" in path.parts:
                continue
            self.assertRegex(path.name, r"^(__init__|[a-z][a-z0-9_]*)\.py$")
            self.assertFalse(path.stem in dir(builtins) or path.stem in WORDS or path.stem.startswith("test"))

    def test_each_file(self):
        for stem, text in self.texts.items():
            with self.subTest(file=stem):
                self.assertEqual(complaints(text, self.methods, self.values), [])

    def test_methods_and_values_have_names_of_their_own(self):
        self.assertEqual(self.methods & self.values, set())
        self.assertEqual(self.values & NO_VALUES, set())

    def test_imports_come_from_where_a_name_is_defined(self):
        for stem, tree in self.trees.items():
            for node in tree.body:
                if isinstance(node, ast.ImportFrom):
                    package, _, module = node.module.partition(".")
                    self.assertEqual((node.level, package), (0, "bassfilled"), stem)
                    for alias in node.names:
                        self.assertIsNone(alias.asname, stem)
                        self.assertIn(alias.name, defined(self.trees[module]), stem)

    def test_no_files_draw_from_one_another(self):
        left = {}
        for stem, tree in self.trees.items():
            left[stem] = [node.module.partition(".")[2] for node in tree.body if isinstance(node, ast.ImportFrom)]
        while left:
            free = [stem for stem in left if not any(source in left for source in left[stem])]
            self.assertTrue(free, left)
            for stem in free:
                left.pop(stem)

    def test_what_is_outside_is_seen(self):
        for text in ("import os\n", "x = len([])\n", "x = 1\nx = 2\n", "def f(*a):\n    return a\n",
                     "def f():\n    return 1 / 2\n", "def f():\n    return 1.5\n", "def f(a):\n    return {b: 1 for b in a}\n",
                     "def f(a):\n    with a:\n        pass\n", "def f():\n    a = b = 1\n    return a + b\n",
                     "def f(a):\n    return eval(a)\n", "def f(a):\n    a.sort()\n", "def f(a):\n    return a is 1\n",
                     "def f(id):\n    return id\n", "def f(_a):\n    return _a\n", "# a type\n", "# \u00e4\n",
                     "def f(a):\n    return [b for c in a for b in c]\n", "class A:\n    x = 1\n",
                     "def f():\n" + "    pass\n" * 40, "# " + "x" * 120 + "\n", "def f(a):\n    return [*a]\n"):
            with self.subTest(text=text):
                self.assertNotEqual(complaints(text, set(), set()), [])
        self.assertEqual(complaints("X = (1, -2)\n\n\ndef f(a):\n    return [b for b in a if b > X[0]]\n", set(), set()), [])


if __name__ == "__main__":
    unittest.main()
