"""The form of the package: the rules of the language that can be seen in the text."""

import ast
import builtins
import os
import re
import unittest

FOLDER = os.path.join(os.path.dirname(os.path.dirname(os.path.abspath(__file__))), "keytalk")
ERRORS = """Exception ValueError TypeError KeyError IndexError LookupError ZeroDivisionError ArithmeticError
    OverflowError RuntimeError NotImplementedError AttributeError StopIteration""".split()
NAMES = """len range enumerate zip min max sum abs sorted reversed int str bool list tuple dict set frozenset
    isinstance ord repr any all divmod""".split() + ERRORS
METHODS = """append clear copy count endswith extend find get index insert isalnum isalpha isdigit islower isspace
    isupper items join keys ljust lower lstrip partition pop remove replace reverse rfind rjust rpartition rsplit
    rstrip setdefault split splitlines startswith strip update upper values zfill bit_length""".split()
VALUES_FREE = "count index title find get join lower upper split strip copy add".split()
TWO_UNDERSCORES = "__init__ __eq__ __repr__ __str__ __len__".split()
UNUSED = """register mro elements open input version_info with_traceback add_note attrgetter breakpoint builtins compile
    copyright credits delattr dir eval exec exit gc getattr globals hasattr help id importlib license locals
    methodcaller os quit setattr super type vars sys format format_map chr""".split()
UNSPOKEN = re.compile(r"\b(type|typing|typing_extensions|enum|Enum|IntEnum|StrEnum|Flag|IntFlag|Generic|Protocol|ABC"
                      r"|ABCMeta|namedtuple|NamedTuple|TypedDict|TYPE_CHECKING|abstractmethod)\b"
                      r"|dataclass|overload|contextmanager")
STATEMENTS = (ast.Assign, ast.AugAssign, ast.If, ast.While, ast.For, ast.Return, ast.Break, ast.Continue, ast.Pass,
              ast.Raise, ast.Try, ast.Expr, ast.FunctionDef, ast.ClassDef, ast.ImportFrom)
OUTSIDE = (ast.Set, ast.SetComp, ast.DictComp, ast.GeneratorExp, ast.NamedExpr, ast.Starred, ast.Div, ast.MatMult,
           ast.Await, ast.Yield, ast.YieldFrom)
WALKED = ("zip", "enumerate", "reversed", "range", "items", "keys", "values")
WALKERS = ("list", "tuple", "dict", "sorted", "sum", "any", "all", "enumerate", "zip", "min", "max")
PYTHON_S = {name for kind in (str, int, list, dict, set, bytes) for name in dir(kind)}


def is_plain(node):
    if isinstance(node, ast.UnaryOp):
        return isinstance(node.op, ast.USub) and is_plain(node.operand)
    if isinstance(node, (ast.List, ast.Tuple)):
        return all(is_plain(one) for one in node.elts)
    if isinstance(node, ast.Dict):
        return all(is_plain(one) for one in node.keys + node.values)
    return isinstance(node, (ast.Constant, ast.Name))


def called(node):
    if not isinstance(node, ast.Call):
        return None
    return node.func.id if isinstance(node.func, ast.Name) else getattr(node.func, "attr", None)


def top_faults(tree):
    if not (tree.body and isinstance(tree.body[0], ast.Expr) and isinstance(tree.body[0].value, ast.Constant)):
        yield "L3 no docstring", 1
    bound = []
    for node in tree.body[1:]:
        if isinstance(node, ast.ImportFrom):
            bound += [one.name for one in node.names]
            if node.level or not re.fullmatch(r"keytalk\.[a-z0-9_]+", node.module) or node.names[0].name == "*":
                yield "L2 import", node.lineno
        elif isinstance(node, (ast.FunctionDef, ast.ClassDef)):
            bound.append(node.name)
        elif isinstance(node, ast.Assign) and is_plain(node.value):
            bound.append(node.targets[0].id)
        else:
            yield "L3 top", node.lineno
    if len(bound) != len(set(bound)):
        yield "L15 bound twice", 1


def statement_faults(node):
    if not isinstance(node, STATEMENTS):
        yield "L6 statement"
    if isinstance(node, (ast.For, ast.While)) and node.orelse:
        yield "L6 else behind a loop"
    if isinstance(node, ast.Assign) and (len(node.targets) > 1 or isinstance(node.targets[0], ast.Tuple)):
        yield "L6 one target"
    if isinstance(node, ast.Expr) and not isinstance(node.value, ast.Call):
        yield "L6 a call by itself"
    if isinstance(node, ast.Try) and node.finalbody:
        yield "L6 finally"
    if isinstance(node, (ast.FunctionDef, ast.ClassDef)) and node.decorator_list:
        yield "L4 L5 decorator"
    if isinstance(node, ast.FunctionDef):
        if node.args.vararg or node.args.kwarg or node.args.kwonlyargs or node.args.posonlyargs:
            yield "L4 plain parameters"
        if node.returns or any(one.annotation for one in node.args.args):
            yield "L21 annotation"
        if node.end_lineno - node.lineno + 1 > 40:
            yield "L10 40 lines"
    if isinstance(node, ast.ClassDef):
        if not all(isinstance(one, ast.FunctionDef) for one in node.body) or len(node.bases) > 1 or node.keywords:
            yield "L5 class"


def expression_faults(node, own):
    if isinstance(node, OUTSIDE):
        yield "L7 expression"
    if isinstance(node, ast.Constant) and isinstance(node.value, (float, complex, bytes)):
        yield "L7 value"
    if isinstance(node, ast.Constant) and isinstance(node.value, str) and "%" in node.value:
        yield "L27 sign"
    if isinstance(node, ast.ListComp) and (len(node.generators) > 1 or len(node.generators[0].ifs) > 1):
        yield "L7 comprehension"
    if isinstance(node, ast.BinOp) and isinstance(node.op, ast.Pow) and not isinstance(node.right, ast.Constant):
        yield "L27 exponent"
    if isinstance(node, ast.Compare):
        for op, right in zip(node.ops, node.comparators):
            if isinstance(op, (ast.Is, ast.IsNot)) and getattr(right, "value", "") not in (None, True, False):
                yield "L20 is"
    if isinstance(node, ast.Call) and called(node) in ("set", "frozenset"):
        yield "L24 set"
    if isinstance(node, ast.Call) and isinstance(node.func, ast.Attribute):
        if node.func.attr not in METHODS and node.func.attr not in own:
            yield "L25 method " + node.func.attr


def name_faults(node, top):
    for name in [getattr(node, "id", None), getattr(node, "attr", None), getattr(node, "arg", None),
                 getattr(node, "name", None)]:
        if not isinstance(name, str):
            continue
        if not re.fullmatch(r"[A-Za-z][A-Za-z0-9_]*", name) and name not in TWO_UNDERSCORES:
            yield "L12 name " + name
        if name in UNUSED:
            yield "L17 name " + name
    if isinstance(node, ast.Name) and hasattr(builtins, node.id):
        if isinstance(node.ctx, ast.Store) or node.id not in NAMES:
            yield "L8 L15 name " + node.id
    stored = node.id if isinstance(node, ast.Name) and isinstance(node.ctx, ast.Store) else getattr(node, "arg", None)
    if isinstance(node, (ast.Name, ast.arg)) and stored and (stored in top or hasattr(builtins, stored)):
        yield "L15 name " + stored


def walk_faults(tree):
    """What is to be walked at once, and isn't."""
    fine = set()
    for node in ast.walk(tree):
        if isinstance(node, (ast.For, ast.comprehension)):
            fine.add(id(node.iter))
        if called(node) in WALKERS:
            fine.update(id(one) for one in node.args)
    for node in ast.walk(tree):
        if called(node) in WALKED and id(node) not in fine:
            yield "L23 walked at once", node.lineno


def value_names(tree):
    return {node.attr for node in ast.walk(tree) if isinstance(node, ast.Attribute) and isinstance(node.ctx, ast.Store)}


def method_names(tree):
    return {one.name for node in ast.walk(tree) if isinstance(node, ast.ClassDef) for one in node.body
            if isinstance(one, ast.FunctionDef)}


def text_faults(text):
    if not all(" " <= sign <= "~" or sign == "\n" for sign in text):
        yield "L14 sign", 0
    for number, line in enumerate(text.split("\n"), 1):
        if len(line) > 120:
            yield "L10 line", number
        if UNSPOKEN.search(line):
            yield "L17 word", number
    if text.count("\n") > 400:
        yield "L10 file", 0


def faults(text, own=()):
    tree = ast.parse(text)
    found = list(text_faults(text)) + list(top_faults(tree)) + list(walk_faults(tree))
    top = {one.name for node in tree.body if isinstance(node, ast.ImportFrom) for one in node.names}
    top |= {node.name for node in tree.body if isinstance(node, ast.ClassDef)}
    inside = [node for node in ast.walk(tree) if node is not tree.body[0] and node is not tree]
    for node in inside:
        line = getattr(node, "lineno", 0)
        if isinstance(node, ast.stmt):
            found += [(fault, line) for fault in statement_faults(node)]
        found += [(fault, line) for fault in expression_faults(node, set(own) | method_names(tree))]
        found += [(fault, line) for fault in name_faults(node, top)]
    return found


class Form(unittest.TestCase):
    @classmethod
    def setUpClass(cls):
        cls.texts = {}
        for name in sorted(os.listdir(FOLDER)):
            if name != "__pycache__":
                with open(os.path.join(FOLDER, name), encoding="utf-8") as file:
                    cls.texts[name] = file.read()
        cls.trees = {name: ast.parse(text) for name, text in cls.texts.items()}

    def test_files(self):
        self.assertIn("__init__.py", self.texts)
        for name in self.texts:
            self.assertRegex(name, r"^([a-z][a-z0-9_]*|__init__)\.py$")
            self.assertFalse(name != "__init__.py" and hasattr(builtins, name[:-3]))

    def test_rules(self):
        own = set().union(*[method_names(tree) for tree in self.trees.values()])
        for name, text in self.texts.items():
            self.assertEqual(faults(text, own), [], name)

    def test_methods_and_values(self):
        methods = set().union(*[method_names(tree) for tree in self.trees.values()])
        values = set().union(*[value_names(tree) for tree in self.trees.values()])
        self.assertEqual(methods & values, set())
        self.assertEqual((values & PYTHON_S) - set(VALUES_FREE), set())
        self.assertEqual((methods & PYTHON_S) - set(TWO_UNDERSCORES) - set(METHODS) - {"add", "discard"}, set())

    def test_imports(self):
        """Each name from the very file that defines it, and no two files from one another."""
        drawn = {}
        for name, tree in self.trees.items():
            drawn[name] = set()
            for node in tree.body:
                if isinstance(node, ast.ImportFrom):
                    source = node.module.split(".")[1] + ".py"
                    drawn[name].add(source)
                    top = [getattr(one, "name", None) or one.targets[0].id for one in self.trees[source].body
                           if isinstance(one, (ast.FunctionDef, ast.ClassDef, ast.Assign))]
                    for one in node.names:
                        self.assertIn(one.name, top, (name, source))
                        self.assertIsNone(one.asname)
        while drawn:
            free = [name for name in drawn if not drawn[name] & set(drawn)]
            self.assertTrue(free, drawn)
            for name in free:
                drawn.pop(name)

    def test_the_rules_see_something(self):
        for text in ("x = 1.5", "def f(*a):\n    return a", "def f(a):\n    return a / 2", "import os",
                     "def f(a):\n    '''Why.'''\n    return a", "def f(a):\n    a = b = 1\n    return a",
                     "def f(a):\n    return (x for x in a)", "def f(a):\n    return {1, 2}", "x = 1\nx = 2",
                     "def f(a):\n    return map(a)", "def f(next):\n    return next", "def f(a):\n    return a.sort()",
                     "def f(a):\n    r = range(3)\n    return r", "# a type\nx = 1",
                     "def f(a):\n    _b = a\n    return _b",
                     "class A:\n    b = 1", "def f(a: int):\n    return a", "def f(a):\n    with a:\n        pass",
                     "def f(a):\n    return a is a", "def f(a):\n    x, y = a\n    return x + y",
                     "def f(a):\n    return 2 ** a", "def f(a):\n    return set(a)", "x = 'a%'", "# \u00e9\nx = 1",
                     "def f(a):\n    return a\n" + "x = 1" + " " * 120):
            text = '"""Doc."""\n\n' + text + "\n"
            self.assertNotEqual(faults(text), [], text)
        self.assertEqual(faults('"""Doc."""\n\nX = (1, -2)\n\n\ndef f(a):\n    return [x for x in a if x > 1]\n'), [])


if __name__ == "__main__":
    unittest.main()
