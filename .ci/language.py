"""Checks the files of the package against those rules of LANGUAGE.md that plain reading can check.

It ends with 1, and a line for each breach, where it finds one. What it cannot see is still required.
"""

import ast
import builtins
import functools
import pathlib
import re
import sys

PACKAGE = pathlib.Path("tumblemarks")
BUILTINS = set(
    "len range enumerate zip min max sum abs sorted reversed int str bool list tuple dict set frozenset isinstance"
    " ord repr any all divmod iter next Exception ValueError TypeError KeyError IndexError LookupError"
    " ZeroDivisionError ArithmeticError OverflowError RuntimeError NotImplementedError AttributeError"
    " StopIteration NotImplemented bytes".split()
)
METHODS = set(
    "append clear copy count endswith extend find get index insert isalnum isalpha isdigit islower isspace isupper"
    " items join keys ljust lower lstrip partition pop remove replace reverse rfind rjust rpartition rsplit rstrip"
    " setdefault split splitlines startswith strip update upper values zfill bit_length title capitalize swapcase"
    " casefold center expandtabs removeprefix removesuffix rindex isascii isdecimal isnumeric istitle isidentifier"
    " isprintable translate sort add discard __init__".split()
)
WORDS = set(
    "type typing typing_extensions enum Enum IntEnum StrEnum Flag IntFlag Generic Protocol ABC ABCMeta namedtuple"
    " NamedTuple TypedDict TYPE_CHECKING abstractmethod".split()
)
BARRED = set(
    "register mro elements open input law version_info with_traceback add_note attrgetter breakpoint builtins compile"
    " copyright credits delattr dir eval exec exit gc getattr globals hasattr help id importlib license locals"
    " methodcaller os quit setattr super type vars sys format format_map".split()
)
AT_MODULE_LEVEL = (ast.ImportFrom, ast.FunctionDef, ast.ClassDef, ast.Assign)
NOT_ALLOWED = (
    ast.Global, ast.AsyncFunctionDef, ast.AsyncFor, ast.AsyncWith, ast.Await, ast.Import, ast.Div, ast.MatMult,
    # Allowed here and there; the package does without them, which is simpler than to say where.
    ast.GeneratorExp, ast.Set, ast.SetComp, ast.Yield, ast.YieldFrom, ast.NamedExpr, ast.Try, ast.With, ast.Match,
)
DUNDERS = ("__init__", "__eq__", "__repr__", "__str__", "__len__")
MARKED = ("__eq__", "__repr__", "__str__", "__len__")
# L26: what may be the name of an own method although values of Python's own have one of that name.
OWN_METHODS = METHODS & set(
    "append clear copy count endswith extend find get index insert isalnum isalpha isdigit islower isspace isupper"
    " items join keys ljust lower lstrip partition pop remove replace reverse rfind rjust rpartition rsplit rstrip"
    " setdefault split splitlines startswith strip update upper values zfill bit_length add discard".split()
)
OWN_ATTRIBUTES = set("count index title find get join lower upper split strip copy add".split())
OF_VALUES = {name for kind in (str, int, list, dict, set, bytes, tuple) for name in dir(kind)}
AT_ONCE = set("zip enumerate reversed range items keys values".split())
TAKES_AT_ONCE = set("list tuple dict sorted sum any all enumerate zip min max join".split())
KEYWORDS = {
    "sorted": {"key", "reverse"}, "min": {"key", "default"}, "max": {"key", "default"}, "sum": {"start"},
    "enumerate": {"start"}, "zip": {"strict"},
}


def is_docstring(node):
    return isinstance(node, ast.Expr) and isinstance(node.value, ast.Constant) and isinstance(node.value.value, str)


def text_breaches(path, text):
    if not re.fullmatch(r"[a-z][a-z0-9_]*\.py|__init__\.py", path.name):
        yield 0, "L1 name of the file"
    if len(text.splitlines()) > 399:
        yield 0, "L10 more than 399 lines"
    for at, line in enumerate(text.split("\n"), 1):
        if len(line) > 120:
            yield at, "L10 more than 120 signs"
        if re.search("[^ -~]", line):
            yield at, "L14 sign beyond the plain ones"
        for word in re.findall(r"\w+", line):
            if word in WORDS or re.search("dataclass|overload|contextmanager", word):
                yield at, f"L17 word {word}"


def module_breaches(tree):
    bound = []
    for at, node in enumerate(tree.body):
        if at == 0 and is_docstring(node):
            continue
        if not isinstance(node, AT_MODULE_LEVEL):
            yield node.lineno, "L3 statement at module level"
        elif isinstance(node, ast.ImportFrom):
            bound += [name.asname or name.name for name in node.names]
            yield from import_breaches(node)
        elif isinstance(node, ast.Assign):
            bound += [target.id for target in node.targets if isinstance(target, ast.Name)]
            if any(isinstance(part, (ast.Call, ast.ListComp, ast.Lambda)) for part in ast.walk(node)):
                yield node.lineno, "L3 no plain value"
        else:
            bound.append(node.name)
    for name in sorted({name for name in bound if bound.count(name) > 1}):
        yield 0, f"L15 {name} bound twice"


def import_breaches(node):
    parts = (node.module or "").split(".")
    if node.level or parts[0] != PACKAGE.name or len(parts) != 2:
        yield node.lineno, "L2 import"
        return
    source = ast.parse((PACKAGE / (parts[1] + ".py")).read_text())
    defined = [part.name for part in source.body if isinstance(part, (ast.FunctionDef, ast.ClassDef))]
    defined += [part.targets[0].id for part in source.body if isinstance(part, ast.Assign)]
    for name in node.names:
        if name.name not in defined:
            yield node.lineno, f"L16 {name.name} is not defined there"


def bound_names(tree):
    for node in ast.walk(tree):
        if isinstance(node, (ast.FunctionDef, ast.ClassDef)):
            yield node.lineno, node.name
        elif isinstance(node, ast.arg):
            yield node.lineno, node.arg
        elif isinstance(node, ast.Name) and isinstance(node.ctx, ast.Store):
            yield node.lineno, node.id


def name_breaches(tree):
    methods, _ = own_names()
    imported = {
        name.asname or name.name for node in tree.body if isinstance(node, ast.ImportFrom) for name in node.names
    }
    for line, name in bound_names(tree):
        if name.startswith("_") and name not in methods:
            yield line, f"L12 name {name}"
        if name in BARRED or hasattr(builtins, name) and name not in methods:
            yield line, f"L15 or L17 name {name}"
        if name in imported:
            yield line, f"L15 {name} is imported"
    for node in ast.walk(tree):
        if isinstance(node, ast.Name) and hasattr(builtins, node.id) and node.id not in BUILTINS:
            yield node.lineno, f"L8 builtin {node.id}"
        if isinstance(node, ast.Call) and isinstance(node.func, ast.Attribute):
            if node.func.attr not in METHODS | methods:
                yield node.lineno, f"L25 method {node.func.attr}"


def trees():
    return [ast.parse(path.read_text()) for path in sorted(PACKAGE.glob("*.py"))]


@functools.lru_cache(maxsize=None)
def own_names():
    """The names of all methods and of all attributes that the package assigns."""
    nodes = [node for tree in trees() for node in ast.walk(tree)]
    methods = {
        part.name for node in nodes if isinstance(node, ast.ClassDef)
        for part in node.body if isinstance(part, ast.FunctionDef)
    }
    attributes = {node.attr for node in nodes if isinstance(node, ast.Attribute) and isinstance(node.ctx, ast.Store)}
    return methods, attributes


def clash_breaches():
    methods, attributes = own_names()
    for name in sorted(methods & attributes):
        yield 0, f"L18 {name} is a method and an attribute"
    for name in sorted(name for name in methods - set(DUNDERS) if name in OF_VALUES - OWN_METHODS):
        yield 0, f"L26 method {name}"
    for name in sorted(name for name in attributes if name in OF_VALUES - OWN_ATTRIBUTES):
        yield 0, f"L26 attribute {name}"


def attribute_breaches(tree):
    _, attributes = own_names()
    called = {id(node.func) for node in ast.walk(tree) if isinstance(node, ast.Call)}
    for node in ast.walk(tree):
        if isinstance(node, ast.Attribute) and id(node) not in called and node.attr not in attributes:
            yield node.lineno, f"L18 attribute {node.attr} is not assigned, or a method is passed on"
        if isinstance(node, ast.ClassDef):
            yield from class_breaches(node)


def class_breaches(node):
    names = [part.name for part in node.body if isinstance(part, ast.FunctionDef)]
    if len(names) > len(set(names)):
        yield node.lineno, "L18 method defined twice"
    for part in node.body:
        if not isinstance(part, ast.FunctionDef) and not is_docstring(part):
            yield part.lineno, "L5 statement in a class"
        if isinstance(part, ast.FunctionDef) and part.name.startswith("__"):
            yield from dunder_breaches(part)


def dunder_breaches(node):
    if node.name not in DUNDERS:
        yield node.lineno, f"L5 method {node.name}"
    if node.name in MARKED:
        if len(node.body) != 1 or not isinstance(node.body[0], ast.Return):
            yield node.lineno, f"L28 {node.name} is more than a return"
    elif any(isinstance(part, ast.Return) for part in ast.walk(node)):
        yield node.lineno, "L28 __init__ returns something"


def call_name(node):
    if isinstance(node, ast.Call) and isinstance(node.func, ast.Name):
        return node.func.id
    if isinstance(node, ast.Call) and isinstance(node.func, ast.Attribute):
        return node.func.attr
    return None


def call_breaches(tree):
    iterated = set()
    for node in ast.walk(tree):
        if isinstance(node, (ast.For, ast.comprehension)):
            iterated.add(id(node.iter))
        if call_name(node) in TAKES_AT_ONCE:
            iterated.update(id(part) for part in node.args)
    for node in ast.walk(tree):
        if call_name(node) in AT_ONCE and id(node) not in iterated:
            yield node.lineno, f"L23 {call_name(node)} is not iterated at once"
        if isinstance(node, ast.Call) and isinstance(node.func, ast.Name) and hasattr(builtins, node.func.id):
            for keyword in node.keywords:
                if keyword.arg not in KEYWORDS.get(node.func.id, ()):
                    yield node.lineno, f"L22 keyword {keyword.arg} of {node.func.id}"


def state_breaches(tree):
    """L15: a list or dict at module level is only read."""
    tables = {
        node.targets[0].id for node in tree.body
        if isinstance(node, ast.Assign) and isinstance(node.value, (ast.List, ast.Dict))
    }
    right = set()
    for node in ast.walk(tree):
        if isinstance(node, ast.Subscript) and isinstance(node.ctx, ast.Load):
            right.add(id(node.value))
        if isinstance(node, ast.Compare):
            right.update(id(part) for part in node.comparators)
        if isinstance(node, (ast.For, ast.comprehension)):
            right.add(id(node.iter))
    for node in ast.walk(tree):
        if isinstance(node, ast.Name) and isinstance(node.ctx, ast.Load) and node.id in tables:
            if id(node) not in right:
                yield node.lineno, f"L15 {node.id} is more than read"


def code_breaches(tree):
    for node in ast.walk(tree):
        line = getattr(node, "lineno", 0)
        if isinstance(node, NOT_ALLOWED):
            yield line, f"L6 or L7 {node.__class__.__name__}"
        if isinstance(node, ast.FunctionDef) and node.end_lineno - node.lineno >= 40:
            yield line, f"L10 {node.name} has more than 40 lines"
        if isinstance(node, ast.Constant) and isinstance(node.value, (float, complex)):
            yield line, "L7 float"
        if isinstance(node, ast.Constant) and isinstance(node.value, str) and "%" in node.value:
            yield line, "L27 percent sign in a string"
        if isinstance(node, ast.ExceptHandler) and node.type is None:
            yield line, "L6 bare except"
        if isinstance(node, ast.Compare) and any(isinstance(sign, (ast.Is, ast.IsNot)) for sign in node.ops):
            if not all(isinstance(side, ast.Constant) for side in node.comparators):
                yield line, "L20 is"


def cycle_breaches():
    needs = {}
    for path in PACKAGE.glob("*.py"):
        tree = ast.parse(path.read_text())
        needs[path.stem] = {
            node.module.split(".")[-1] for node in tree.body if isinstance(node, ast.ImportFrom) and node.module
        }
    while needs:
        free = [name for name in needs if not needs[name] & set(needs)]
        if not free:
            yield 0, f"L16 files that import from each other: {sorted(needs)}"
            return
        for name in free:
            del needs[name]


CHECKS = (
    module_breaches, name_breaches, attribute_breaches, call_breaches, state_breaches, code_breaches,
)


def main():
    breaches = [(PACKAGE, *breach) for check in (cycle_breaches, clash_breaches) for breach in check()]
    for path in sorted(PACKAGE.iterdir()):
        if path.name == "__pycache__":
            continue
        text = path.read_text(encoding="utf-8")
        tree = ast.parse(text)
        for check in CHECKS:
            breaches += [(path, *breach) for breach in check(tree)]
        breaches += [(path, *breach) for breach in text_breaches(path, text)]
    for path, line, words in breaches:
        print(f"{path}:{line}: {words}")
    return 1 if breaches else 0


if __name__ == "__main__":
    sys.exit(main())
