"""Looks for code that leaves the part of Python the package keeps to. It knows some of the rules, not all."""

import ast
import builtins
import re

MAY_BE_CALLED = set(
    "len range enumerate zip min max sum abs sorted reversed int str bool list tuple dict set frozenset isinstance "
    "ord repr any all divmod Exception ValueError TypeError KeyError IndexError LookupError ZeroDivisionError "
    "ArithmeticError OverflowError RuntimeError NotImplementedError AttributeError StopIteration".split()
)
NOWHERE = re.compile(
    r"\b(type|typing|typing_extensions|enum|Enum|IntEnum|StrEnum|Flag|IntFlag|Generic|Protocol|ABC|ABCMeta|namedtuple"
    r"|NamedTuple|TypedDict|TYPE_CHECKING|abstractmethod)\b|dataclass|overload|contextmanager"
)
LEFT_OUT = (
    ast.With, ast.Match, ast.Delete, ast.Global, ast.Nonlocal, ast.Assert, ast.Yield, ast.YieldFrom, ast.AsyncFor,
    ast.AsyncFunctionDef, ast.AsyncWith, ast.Await, ast.Div, ast.SetComp, ast.DictComp, ast.GeneratorExp,
    ast.NamedExpr, ast.Starred, ast.MatMult, ast.Import,
)
PYTHONS_METHODS = set(
    "append clear copy count endswith extend find get index insert isalnum isalpha isdigit islower isspace isupper "
    "items join keys ljust lower lstrip partition pop remove replace reverse rfind rjust rpartition rsplit rstrip "
    "setdefault split splitlines startswith strip update upper values zfill bit_length".split()
)
SPECIAL_METHODS = ("__init__", "__eq__", "__repr__", "__str__", "__len__")


def faults(source):
    tree = ast.parse(source)
    found = text_faults(source)
    for node in ast.walk(tree):
        found.extend(node_faults(node))
    return found


def package_faults(sources):
    """What shows only over all files together: how methods and objects' values are called."""
    nodes = [node for source in sources for node in ast.walk(ast.parse(source))]
    classes = [node for node in nodes if isinstance(node, ast.ClassDef)]
    methods = {part.name for node in classes for part in node.body if isinstance(part, ast.FunctionDef)}
    stored = {node.attr for node in nodes if isinstance(node, ast.Attribute) and isinstance(node.ctx, ast.Store)}
    called = {node.func.attr for node in nodes if isinstance(node, ast.Call) and isinstance(node.func, ast.Attribute)}
    found = [f"{name} is a method and a value" for name in sorted(methods & stored)]
    return found + [f"method {name} not allowed" for name in sorted(called - methods - PYTHONS_METHODS)]


def text_faults(source):
    found = []
    lines = source.split("\n")
    if len(lines) > 401:
        found.append("file too long")
    for number, line in enumerate(lines, start=1):
        if len(line) > 120:
            found.append(f"{number}: line too long")
        if re.search(r"[^ -~]", line):
            found.append(f"{number}: sign not allowed")
        if NOWHERE.search(line):
            found.append(f"{number}: word not allowed")
    return found


def node_faults(node):
    at = getattr(node, "lineno", 0)
    found = []
    if isinstance(node, LEFT_OUT):
        found.append(f"{at}: {node.__class__.__name__} not allowed")
    if isinstance(node, ast.ImportFrom) and not is_own_import(node):
        found.append(f"{at}: import not allowed")
    if isinstance(node, ast.Constant) and isinstance(node.value, (float, complex, bytes)):
        found.append(f"{at}: value not allowed")
    if isinstance(node, ast.Name) and hasattr(builtins, node.id) and node.id not in MAY_BE_CALLED:
        found.append(f"{at}: {node.id} not allowed")
    if isinstance(node, ast.FunctionDef) and node.end_lineno - node.lineno >= 40:
        found.append(f"{at}: function too long")
    if isinstance(node, (ast.FunctionDef, ast.ClassDef)) and node.decorator_list:
        found.append(f"{at}: decorator")
    if isinstance(node, (ast.For, ast.While)) and node.orelse:
        found.append(f"{at}: else behind a loop")
    if isinstance(node, ast.Try) and node.finalbody:
        found.append(f"{at}: finally not allowed")
    if isinstance(node, ast.Assign) and (len(node.targets) > 1 or isinstance(node.targets[0], (ast.Tuple, ast.List))):
        found.append(f"{at}: more than one target")
    if isinstance(node, ast.Compare) and not all(is_good_is(pair) for pair in zip(node.ops, node.comparators)):
        found.append(f"{at}: is not beside None, True or False")
    for name in names_in(node):
        if name.startswith("_") and name not in SPECIAL_METHODS:
            found.append(f"{at}: name {name} not allowed")
    return found


def is_own_import(node):
    if node.module == "__future__":
        return [name.name for name in node.names] == ["annotations"]
    own = node.level == 0 and (node.module or "").startswith("platepiles.")
    return own and all(name.name != "*" for name in node.names)


def is_good_is(pair):
    sign, value = pair
    if not isinstance(sign, (ast.Is, ast.IsNot)):
        return True
    return isinstance(value, ast.Constant) and (value.value is None or isinstance(value.value, bool))


def names_in(node):
    if isinstance(node, ast.Name):
        return [node.id]
    if isinstance(node, ast.Attribute):
        return [node.attr]
    if isinstance(node, ast.arg):
        return [node.arg]
    if isinstance(node, (ast.FunctionDef, ast.ClassDef)):
        return [node.name]
    return []
