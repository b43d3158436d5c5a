"""The package keeps to the part of Python that it is written in, rule by rule (L1 to L28).

Where a rule allows more than the package needs (sets, annotations, most methods with two underscores,
docstrings below a file's top), what is held here is narrower than the rule. Not looked at: what an inner def
assigns of what is around it (L4), and what depends on depth or order when the program runs (L11).
"""

import ast
import builtins
import io
import re
import tokenize
import unittest
from pathlib import Path

PACKAGE = "mirrorwordsdesk"
FOLDER = Path(__file__).resolve().parent.parent / PACKAGE

ALLOWED_NODES = set("""
Module Expr Assign AugAssign If While For Return Break Continue Pass Raise Try ExceptHandler FunctionDef ClassDef
ImportFrom arguments arg alias keyword Name Constant List Tuple Dict BinOp UnaryOp BoolOp Compare IfExp Call
Attribute Subscript Slice ListComp comprehension JoinedStr FormattedValue Lambda Load Store Add Sub Mult FloorDiv Mod
Pow BitAnd BitOr BitXor LShift RShift USub UAdd Invert Not And Or Eq NotEq Lt LtE Gt GtE Is IsNot In NotIn
""".split())
FUNCTIONS = set("""
len range enumerate zip min max sum abs sorted reversed int str bool list tuple dict isinstance ord repr any all divmod
""".split())
ERRORS = set("""
Exception ValueError TypeError KeyError IndexError LookupError ZeroDivisionError ArithmeticError OverflowError
RuntimeError NotImplementedError AttributeError StopIteration
""".split())
TAKEN_FREELY = {"KeyError", "ZeroDivisionError", "StopIteration"}
NO_BASES = {"StopIteration", "AttributeError"}
UNUSED_ANYWHERE = set("register mro elements open input version_info with_traceback add_note format format_map".split())
UNUSED_NAMES = set("""
attrgetter breakpoint builtins compile copyright credits delattr dir eval exec exit gc getattr globals hasattr help id
importlib license locals methodcaller os quit setattr super type vars sys chr __name__
""".split())
UNUSED_WORDS = set("""
type typing typing_extensions enum Enum IntEnum StrEnum Flag IntFlag Generic Protocol ABC ABCMeta namedtuple NamedTuple
TypedDict TYPE_CHECKING abstractmethod
""".split())
UNUSED_WITHIN_WORDS = ("dataclass", "overload", "contextmanager")
FRAME_NAME = re.compile(r"^(f|tb|co|gi|cr|ag)_[a-z]+$")
METHODS = set("""
append clear copy count endswith extend find get index insert isalnum isalpha isdigit islower isspace isupper items
join keys ljust lower lstrip partition pop remove replace reverse rfind rjust rpartition rsplit rstrip setdefault split
splitlines startswith strip update upper values zfill bit_length
""".split())
CHANGING = set("append clear extend insert pop remove reverse setdefault update".split())
ONLY_READING = set("get items keys values index count copy".split())
VALUE_NAMES = set("count index title find get join lower upper split strip copy add".split())
KEYWORDS = {"sorted": {"key", "reverse"}, "min": {"key", "default"}, "max": {"key", "default"}, "sum": {"start"},
            "enumerate": {"start"}, "zip": {"strict"}}
WALKED = {"zip", "enumerate", "reversed", "range"}
WALKED_METHODS = {"items", "keys", "values"}
WALKERS = {"list", "tuple", "dict", "sorted", "sum", "any", "all", "enumerate", "zip", "min", "max"}
PYTHON_S_OWN = set().union(*[dir(kind) for kind in (str, int, list, dict, set, bytes)])
BUILTIN_NAMES = set(dir(builtins))
BAD_FILE_NAMES = {"test", "tests", "testing", "site", "conftest", "sitecustomize", "usercustomize"}


class File:
    def __init__(self, name, text):
        self.name = name
        self.text = text
        self.tree = ast.parse(text)
        self.parent = {}
        for node in ast.walk(self.tree):
            for child in ast.iter_child_nodes(node):
                self.parent[child] = node
        self.nodes = list(ast.walk(self.tree))
        self.imports = [node for node in self.nodes if isinstance(node, (ast.Import, ast.ImportFrom))]
        self.imported = {alias.name: node.module for node in self.imports if isinstance(node, ast.ImportFrom)
                         for alias in node.names}
        self.classes = [node for node in self.tree.body if isinstance(node, ast.ClassDef)]
        self.top_names = [name for node in self.tree.body for name in names_bound_by(node)]

    def all_of(self, *kinds):
        return [node for node in self.nodes if isinstance(node, kinds)]

    def own_containers(self):
        return [node.targets[0].id for node in self.tree.body
                if isinstance(node, ast.Assign) and isinstance(node.value, (ast.List, ast.Dict))]


def names_bound_by(node):
    if isinstance(node, ast.Assign):
        return [target.id for target in node.targets if isinstance(target, ast.Name)]
    if isinstance(node, (ast.FunctionDef, ast.ClassDef)):
        return [node.name]
    if isinstance(node, ast.ImportFrom):
        return [alias.name for alias in node.names]
    return []


class Package:
    def __init__(self, texts):
        self.files = [File(name, text) for name, text in sorted(texts.items())]
        self.modules = {f"{PACKAGE}.{file.name[:-3]}": file for file in self.files}
        classes = [node for file in self.files for node in file.classes]
        self.class_names = {node.name for node in classes}
        self.error_names = {node.name for node in classes if node.bases}
        self.methods = {part.name for node in classes for part in node.body if isinstance(part, ast.FunctionDef)}
        self.own_values = {node.attr for file in self.files for node in file.all_of(ast.Attribute)
                           if isinstance(node.ctx, ast.Store)}
        self.containers = {name for file in self.files for name in file.own_containers()}
        self.faults = []

    def fault(self, rule, file, node, why):
        self.faults.append((rule, f"{rule} {file.name}:{getattr(node, 'lineno', 0)} {why}"))

    def look(self):
        self.look_at_file_names()
        self.look_for_circles()
        for file in self.files:
            for part in (look_at_text, look_at_top, look_at_nodes, look_at_names, look_at_defs, look_at_classes,
                         look_at_errors, look_at_calls, look_at_containers, look_at_walks, look_at_texts):
                part(self, file)
        return self.faults

    def look_at_file_names(self):
        names = [file.name for file in self.files]
        if "__init__.py" not in names:
            self.faults.append(("L14", "L14 no __init__.py"))
        for file in self.files:
            if file.name == "__init__.py" and {f"{name}.py" for name in file.top_names} & set(names):
                self.fault("L16", file, None, "a name that a file has")
        for file in self.files:
            stem = file.name[:-3]
            if file.name in ("__init__.py", "__main__.py"):
                continue
            if not re.fullmatch(r"[a-z][a-z0-9_]*", stem):
                self.fault("L1", file, None, "a file's name")
            if stem in BAD_FILE_NAMES | UNUSED_WORDS | BUILTIN_NAMES or stem.startswith("test_"):
                self.fault("L14", file, None, "a file's name")

    def look_for_circles(self):
        draws = {name: {node.module for node in file.imports if isinstance(node, ast.ImportFrom)}
                 for name, file in self.modules.items()}
        for begin in draws:
            reached, waiting = set(), [begin]
            while waiting:
                for other in draws.get(waiting.pop(), ()):
                    if other not in reached:
                        reached.add(other)
                        waiting.append(other)
            if begin in reached:
                self.fault("L16", self.modules[begin], None, "draws from itself")


def look_at_text(package, file):
    lines = file.text.split("\n")
    if len(lines) > 401:
        package.fault("L10", file, None, "too many lines")
    for number, line in enumerate(lines, start=1):
        place = ast.Pass(lineno=number)
        if len(line) > 120:
            package.fault("L10", file, place, "a long line")
        if "\t" in line:
            package.fault("L10", file, place, "a tab")
        if re.search(r"[^ -~\t]", line):
            package.fault("L14", file, place, "a sign")
        words = set(re.findall(r"\w+", line))
        if words & UNUSED_WORDS or any(part in line for part in UNUSED_WITHIN_WORDS):
            package.fault("L17", file, place, "a word that is not used")


def is_plain(node, file):
    if isinstance(node, ast.Constant):
        return node.value is None or isinstance(node.value, (bool, int, str))
    if isinstance(node, ast.UnaryOp):
        return isinstance(node.op, ast.USub) and isinstance(node.operand, ast.Constant)
    if isinstance(node, (ast.List, ast.Tuple)):
        return all(is_plain(part, file) for part in node.elts)
    if isinstance(node, ast.Dict):
        return all(is_plain(part, file) for part in node.keys + node.values)
    above = [part for part in file.tree.body if isinstance(part, ast.FunctionDef) and part.lineno < node.lineno]
    return isinstance(node, ast.Name) and node.id in [part.name for part in above]


def look_at_top(package, file):
    begun = False
    for place, node in enumerate(file.tree.body):
        if isinstance(node, ast.Expr) and place == 0 and isinstance(node.value, ast.Constant):
            continue
        if isinstance(node, ast.ImportFrom):
            if begun:
                package.fault("L2", file, node, "an import below the top")
            continue
        begun = True
        if isinstance(node, ast.Assign):
            if not is_plain(node.value, file):
                package.fault("L3", file, node, "no plain value")
            inner = [part for part in ast.walk(node.value) if isinstance(part, (ast.List, ast.Dict))]
            if any(part is not node.value for part in inner):
                package.fault("L15", file, node, "a list or dict within another, or in a tuple")
        elif not isinstance(node, (ast.FunctionDef, ast.ClassDef)):
            package.fault("L3", file, node, "not for a file's top")
    for name in set(file.top_names):
        if file.top_names.count(name) > 1:
            package.fault("L15", file, None, f"{name} is bound twice")
    for node in file.imports:
        look_at_import(package, file, node)


def look_at_import(package, file, node):
    if not isinstance(node, ast.ImportFrom) or node.level or node.module not in package.modules:
        package.fault("L2", file, node, "not the package's own")
        return
    if file.parent[node] is not file.tree:
        package.fault("L2", file, node, "not at the top")
    defined = [name for part in package.modules[node.module].tree.body if not isinstance(part, ast.ImportFrom)
               for name in names_bound_by(part)]
    for alias in node.names:
        if alias.name not in defined or alias.asname:
            package.fault("L16", file, node, f"{alias.name} is not defined there")


def look_at_nodes(package, file):
    for node in file.nodes:
        kind = node.__class__.__name__
        parent = file.parent.get(node)
        if kind not in ALLOWED_NODES:
            package.fault("L6", file, node, kind)
        if isinstance(node, ast.Expr) and not isinstance(node.value, ast.Call):
            if not (parent is file.tree and node is file.tree.body[0]):
                package.fault("L6", file, node, "no call")
        if isinstance(node, ast.Assign) and len(node.targets) != 1:
            package.fault("L6", file, node, "several targets")
        if isinstance(node, (ast.For, ast.While)) and node.orelse:
            package.fault("L6", file, node, "else behind a loop")
        if isinstance(node, ast.Try) and node.finalbody:
            package.fault("L6", file, node, "finally")
        if isinstance(node, ast.ListComp):
            if len(node.generators) != 1 or len(node.generators[0].ifs) > 1:
                package.fault("L7", file, node, "a comprehension")
        if isinstance(node, ast.FormattedValue):
            if not isinstance(node.value, ast.Name) or node.conversion not in (-1, ord("r")) or node.format_spec:
                package.fault("L7", file, node, "an f-string")
        if isinstance(node, ast.Compare):
            look_at_is(package, file, node)
        if isinstance(node, ast.BinOp) and isinstance(node.op, ast.Pow):
            exponent = node.right.value if isinstance(node.right, ast.Constant) else None
            if not isinstance(exponent, int) or not 0 <= exponent <= 64:
                package.fault("L27", file, node, "an exponent")
    lines = [node.lineno for node in file.all_of(ast.Lambda)]
    if len(lines) != len(set(lines)):
        package.fault("L13", file, None, "two lambdas on a line")


def look_at_is(package, file, node):
    sides = [node.left] + node.comparators
    for op, left, right in zip(node.ops, sides, sides[1:]):
        if isinstance(op, (ast.Is, ast.IsNot)):
            if not any(isinstance(side, ast.Constant) and side.value in (None, True, False) for side in (left, right)):
                package.fault("L20", file, node, "is")


def bound_names(file):
    found = []
    for node in file.nodes:
        if isinstance(node, ast.Name) and isinstance(node.ctx, ast.Store):
            found.append((node.id, node))
        elif isinstance(node, ast.arg):
            found.append((node.arg, node))
        elif isinstance(node, ast.ExceptHandler) and node.name:
            found.append((node.name, node))
        elif isinstance(node, (ast.FunctionDef, ast.ClassDef)):
            found.append((node.name, node))
        elif isinstance(node, ast.ImportFrom):
            found.extend((alias.name, node) for alias in node.names)
    return found


def look_at_names(package, file):
    bound = bound_names(file)
    names = {name for name, node in bound}
    classes_and_imports = {node.name for node in file.classes} | set(file.imported)
    for name, node in bound:
        is_method = isinstance(node, ast.FunctionDef) and isinstance(file.parent[node], ast.ClassDef)
        if not re.fullmatch(r"[A-Za-z][A-Za-z0-9_]*", name) and not (is_method and name == "__init__"):
            package.fault("L12", file, node, name)
        if name in BUILTIN_NAMES and not is_method:
            package.fault("L15", file, node, name)
        if isinstance(node, (ast.Name, ast.arg)) and name in classes_and_imports:
            package.fault("L15", file, node, f"{name} is a class or an import")
    for node in file.all_of(ast.Name):
        if isinstance(node.ctx, ast.Load) and node.id not in names | FUNCTIONS | ERRORS:
            package.fault("L8", file, node, node.id)
    used = [(node.id, node) for node in file.all_of(ast.Name)] + bound
    attributes = [(node.attr, node) for node in file.all_of(ast.Attribute)]
    for name, node in used + attributes:
        if name in UNUSED_ANYWHERE or FRAME_NAME.match(name):
            package.fault("L17", file, node, name)
    for name, node in used:
        if name in UNUSED_NAMES:
            package.fault("L17", file, node, name)
    for name, node in attributes:
        if name.startswith("_") and name != "__init__":
            package.fault("L12", file, node, name)


def look_at_defs(package, file):
    for node in file.all_of(ast.FunctionDef, ast.Lambda):
        args = node.args
        if args.vararg or args.kwarg or args.kwonlyargs or args.posonlyargs:
            package.fault("L4", file, node, "parameters")
        if not all(is_plain(value, file) for value in args.defaults):
            package.fault("L4", file, node, "a default")
        if any(arg.annotation for arg in args.args) or getattr(node, "returns", None):
            package.fault("L21", file, node, "an annotation")
    for node in file.all_of(ast.FunctionDef, ast.ClassDef):
        if node.decorator_list:
            package.fault("L4", file, node, "a decorator")
    for node in file.all_of(ast.FunctionDef):
        if node.end_lineno - node.lineno + 1 > 40:
            package.fault("L10", file, node, "a long function")


def look_at_classes(package, file):
    for node in file.all_of(ast.ClassDef):
        if file.parent[node] is not file.tree:
            package.fault("L15", file, node, "a class below the top")
        bases = [base.id for base in node.bases if isinstance(base, ast.Name)]
        if len(node.bases) > 1 or node.keywords or len(bases) != len(node.bases):
            package.fault("L5", file, node, "bases")
        if any(base not in (ERRORS - NO_BASES) | package.class_names for base in bases):
            package.fault("L18", file, node, "a base")
        if not all(isinstance(part, (ast.FunctionDef, ast.Pass)) for part in node.body):
            package.fault("L5", file, node, "a value in a class")
        methods = [part.name for part in node.body if isinstance(part, ast.FunctionDef)]
        if len(methods) != len(set(methods)):
            package.fault("L18", file, node, "a method twice")
        for part in node.body:
            if isinstance(part, ast.FunctionDef):
                look_at_method(package, file, part)
    for node in file.all_of(ast.Attribute):
        if isinstance(node.ctx, ast.Store):
            if not isinstance(node.value, ast.Name) or node.value.id in file.top_names:
                package.fault("L18", file, node, "a value that is given")
            if node.attr in package.methods:
                package.fault("L18", file, node, f"{node.attr} is a method too")
            if node.attr in PYTHON_S_OWN | {"sort", "args"} and node.attr not in VALUE_NAMES:
                package.fault("L26", file, node, node.attr)
    for node in file.all_of(ast.Name):
        if isinstance(node.ctx, ast.Load) and node.id in package.class_names and not class_stands_well(file, node):
            package.fault("L18", file, node, f"{node.id} is kept or handed on")


def look_at_method(package, file, node):
    if node.name.startswith("__"):
        if node.name != "__init__":
            package.fault("L28", file, node, node.name)
        elif any(isinstance(part, ast.Return) and part.value for part in ast.walk(node)):
            package.fault("L28", file, node, "something given back")
    elif node.name in PYTHON_S_OWN and node.name not in METHODS | {"add", "discard"}:
        package.fault("L26", file, node, node.name)


def class_stands_well(file, node):
    parent = file.parent[node]
    if isinstance(parent, ast.Tuple):
        parent = file.parent[parent]
    if isinstance(parent, ast.Call):
        return parent.func is node or (isinstance(parent.func, ast.Name) and parent.func.id == "isinstance")
    if isinstance(parent, ast.Attribute):
        return parent.attr == "__init__"
    return isinstance(parent, (ast.ClassDef, ast.ExceptHandler))


def look_at_errors(package, file):
    for node in file.all_of(ast.Raise):
        if node.exc is not None and not isinstance(node.exc, ast.Call):
            package.fault("L19", file, node, "an error from elsewhere")
    for node in file.all_of(ast.ExceptHandler):
        taken = node.type.elts if isinstance(node.type, ast.Tuple) else [node.type]
        for part in taken:
            if not isinstance(part, ast.Name) or part.id not in package.error_names | TAKEN_FREELY:
                package.fault("L19", file, node, "what is taken")


def look_at_calls(package, file):
    for node in file.all_of(ast.Call):
        keywords = {keyword.arg for keyword in node.keywords}
        if isinstance(node.func, ast.Name):
            if node.func.id in FUNCTIONS | ERRORS and not keywords <= KEYWORDS.get(node.func.id, set()):
                package.fault("L22", file, node, "a keyword")
        if isinstance(node.func, ast.Attribute):
            attr = node.func.attr
            if attr not in METHODS | package.methods:
                package.fault("L25", file, node, attr)
            if attr in METHODS and keywords:
                package.fault("L22", file, node, "a keyword")
    for node in file.all_of(ast.Name):
        if node.id in FUNCTIONS and not called_or_key(file, node):
            package.fault("L22", file, node, f"{node.id} is kept")
    for node in file.all_of(ast.Attribute):
        parent = file.parent[node]
        if isinstance(parent, ast.Call) and parent.func is node or isinstance(parent, ast.keyword):
            continue
        if node.attr not in package.own_values:
            package.fault("L25", file, node, f"{node.attr} is handed on")


def called_or_key(file, node):
    parent = file.parent[node]
    if isinstance(parent, ast.Tuple):
        parent = file.parent[parent]
    if isinstance(parent, ast.keyword):
        return parent.arg == "key"
    if isinstance(parent, ast.Call):
        return parent.func is node or (isinstance(parent.func, ast.Name) and parent.func.id == "isinstance")
    return False


def look_at_containers(package, file):
    for node in file.all_of(ast.Name):
        if node.id not in package.containers or isinstance(node.ctx, ast.Store):
            continue
        parent = file.parent[node]
        fine = isinstance(parent, (ast.Compare, ast.For, ast.comprehension))
        if isinstance(parent, ast.Subscript):
            fine = parent.value is node and isinstance(parent.ctx, ast.Load)
        if isinstance(parent, ast.Attribute):
            fine = parent.attr in ONLY_READING
        if isinstance(parent, ast.Call):
            fine = isinstance(parent.func, ast.Name) and parent.func.id in FUNCTIONS
        if not fine:
            package.fault("L15", file, node, f"{node.id} is changed or handed on")


def look_at_walks(package, file):
    for node in file.all_of(ast.Call):
        walked = isinstance(node.func, ast.Name) and node.func.id in WALKED
        walked = walked or isinstance(node.func, ast.Attribute) and node.func.attr in WALKED_METHODS
        if walked and not walked_at_once(file.parent[node], node):
            package.fault("L23", file, node, "not walked at once")
    for loop in file.all_of(ast.For):
        names = {part.id for part in ast.walk(loop.iter) if isinstance(part, ast.Name)}
        if isinstance(loop.iter, ast.Call) and isinstance(loop.iter.func, ast.Name):
            if loop.iter.func.id in ("range", "list", "sorted", "tuple"):
                continue
        for part in [inner for row in loop.body for inner in ast.walk(row)]:
            if changed_name(part) in names:
                package.fault("L23", file, part, "what is walked is changed")


def walked_at_once(parent, node):
    if isinstance(parent, (ast.For, ast.comprehension)):
        return parent.iter is node
    if isinstance(parent, ast.Call) and isinstance(parent.func, ast.Name):
        return parent.func.id in WALKERS and node in parent.args
    if isinstance(parent, ast.Call) and isinstance(parent.func, ast.Attribute):
        return parent.func.attr == "join" and isinstance(parent.func.value, ast.Constant)
    return False


def changed_name(node):
    if isinstance(node, ast.Subscript) and isinstance(node.ctx, ast.Store) and isinstance(node.value, ast.Name):
        return node.value.id
    if isinstance(node, ast.Call) and isinstance(node.func, ast.Attribute) and node.func.attr in CHANGING:
        return node.func.value.id if isinstance(node.func.value, ast.Name) else None
    return None


def look_at_texts(package, file):
    for node in file.all_of(ast.Constant):
        if isinstance(node.value, (float, complex, bytes)) or node.value is ...:
            package.fault("L7", file, node, "a value")
        if isinstance(node.value, str) and "%" in node.value:
            package.fault("L27", file, node, "a sign in a text")
        if isinstance(node.value, int) and node.value >= 10 ** 900:
            package.fault("L27", file, node, "a long number")
    for token in tokenize.generate_tokens(io.StringIO(file.text).readline):
        if token.type == tokenize.STRING and re.search(r"\\[^nt\\'\"]", token.string.replace("\\\\", "")):
            package.fault("L27", file, ast.Pass(lineno=token.start[0]), "an escape")


INIT = '"""A package."""\n'

WRONG = [
    ("L2", "import sys\n"), ("L2", "from os import path\n"), ("L2", "from . import words\n"),
    ("L2", f"def f():\n    return 1\n\n\nfrom {PACKAGE}.other import g\n"),
    ("L16", f"from {PACKAGE}.other import missing\n"), ("L16", f"from {PACKAGE}.circle import h\n"),
    ("L3", "x = len([])\n"), ("L3", "if True:\n    pass\n"), ("L15", "x = 1\nx = 2\n"), ("L15", "x = [[1], [2]]\n"),
    ("L15", "x = {1: 2}\n\n\ndef f():\n    x[3] = 4\n"), ("L15", "x = [1]\n\n\ndef f():\n    x.append(4)\n"),
    ("L15", "x = [1]\n\n\ndef f():\n    return x\n"), ("L15", "def f(hash):\n    return hash\n"),
    ("L4", "def f(*rows):\n    return rows\n"), ("L4", "def f(a, *, b):\n    return a\n"),
    ("L21", "def f(a: int):\n    return a\n"), ("L5", "class C:\n    x = 1\n"),
    ("L28", "class C:\n    def __len__(self):\n        return 1\n"),
    ("L28", "class C:\n    def __init__(self):\n        return None\n"),
    ("L6", "def f():\n    assert True\n"), ("L6", "def f():\n    a = b = 1\n"), ("L6", "def f():\n    yield 1\n"),
    ("L6", "def f(x):\n    for y in x:\n        pass\n    else:\n        pass\n"), ("L6", "def f(x):\n    x\n"),
    ("L6", "def f(x):\n    return x / 2\n"), ("L6", "def f(x):\n    return {y for y in x}\n"),
    ("L6", "def f(x):\n    return sum(y for y in x)\n"), ("L6", "def f(x):\n    return {1, 2, 3}\n"),
    ("L7", "def f(x):\n    return [y for z in x for y in z]\n"), ("L7", "def f():\n    return 1.5\n"),
    ("L7", "def f(x):\n    return f'{x + 1}'\n"), ("L8", "def f(x):\n    return pow(x, 2)\n"),
    ("L8", "def f():\n    print(1)\n"), ("L8", "def f(x):\n    return set(x)\n"),
    ("L10", "def f():\n" + "    pass\n" * 40), ("L10", "# " + "x" * 119 + "\n"), ("L10", "def f():\n\treturn 1\n"),
    ("L10", "# x\n" * 401), ("L12", "def f(_x):\n    return 1\n"), ("L12", "def f(x):\n    return x._y\n"),
    ("L13", "def f():\n    return [lambda x: 1, lambda x: 2]\n"), ("L14", "# \u03c6\n"),
    ("L17", "# the type\n"), ("L17", "def f(x):\n    return x.f_back\n"), ("L17", "def f(os):\n    return os\n"),
    ("L18", "class C:\n    pass\n\n\ndef f():\n    return [C]\n"),
    ("L18", "class C:\n    def g(self):\n        self.g = 1\n"),
    ("L18", "class C(StopIteration):\n    pass\n"),
    ("L19", "def f():\n    try:\n        return 1\n    except Exception:\n        return 2\n"),
    ("L19", "def f(e):\n    raise e\n"), ("L20", "def f(x, y):\n    return x is y\n"),
    ("L22", "def f(x):\n    y = len\n    return y\n"), ("L22", "def f(x):\n    return int(x, base=2)\n"),
    ("L23", "def f(x):\n    y = zip(x, x)\n    return y\n"), ("L23", "def f(x):\n    for y in x:\n        x.append(y)\n"),
    ("L23", "def f(x):\n    for k, y in enumerate(x):\n        x[k] = y\n"),
    ("L25", "def f(x):\n    x.sort()\n"), ("L25", "def f(x):\n    return x.append\n"),
    ("L26", "class C:\n    def __init__(self):\n        self.real = 1\n"),
    ("L26", "class C:\n    def encode(self):\n        return 1\n"),
    ("L27", "def f(n):\n    return 2 ** n\n"), ("L27", "def f():\n    return 'x%'\n"),
    ("L27", "def f():\n    return '\\x41'\n"),
]


class Language(unittest.TestCase):
    def test_the_package_keeps_to_it(self):
        texts = {path.name: path.read_text("utf-8") for path in FOLDER.glob("*.py")}
        self.assertEqual([why for rule, why in Package(texts).look()], [])

    def test_nothing_else_lies_in_the_package(self):
        others = [path.name for path in FOLDER.iterdir() if path.suffix != ".py" and path.name != "__pycache__"]
        self.assertEqual(others, [])

    def test_what_breaks_a_rule_is_seen(self):
        for rule, text in WRONG:
            texts = {"__init__.py": INIT, "wrong.py": text, "other.py": "def g():\n    return 1\n",
                     "circle.py": f"from {PACKAGE}.wrong import h\n"}
            if "circle" not in text:
                texts.pop("circle.py")
            self.assertIn(rule, [found for found, why in Package(texts).look()], text)

    def test_wrong_file_names_are_seen(self):
        for name, rule in (("Words.py", "L1"), ("filter.py", "L14"), ("test_words.py", "L14"), ("site.py", "L14")):
            faults = Package({"__init__.py": INIT, name: INIT}).look()
            self.assertIn(rule, [found for found, why in faults], name)
        self.assertIn("L14", [found for found, why in Package({"words.py": INIT}).look()])
        faults = Package({"__init__.py": "words = 1\n", "words.py": INIT}).look()
        self.assertIn("L16", [found for found, why in faults])


if __name__ == "__main__":
    unittest.main()
