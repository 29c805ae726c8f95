"""Finds where a file of the package leaves the part of Python that the program keeps to.

It sees the rules that can be read off one file, and some of all files together; the others are for the reader.
"""

import ast
import builtins
import re

OWN_NAMES = set("""
    len range enumerate zip min max sum abs sorted reversed int str bool bytes list tuple dict set frozenset
    isinstance ord repr any all divmod Exception ValueError TypeError KeyError IndexError LookupError
    ZeroDivisionError ArithmeticError OverflowError RuntimeError NotImplementedError AttributeError StopIteration
""".split())

UNUSED_NAMES = set("""
    register mro elements open input version_info with_traceback add_note attrgetter breakpoint builtins compile
    copyright credits delattr dir eval exec exit gc getattr globals hasattr help id importlib license locals
    methodcaller os quit setattr super type vars sys format format_map
""".split())

UNUSED_WORDS = re.compile(
    r"\b(type|typing|typing_extensions|enum|Enum|IntEnum|StrEnum|Flag|IntFlag|Generic|Protocol|ABC|ABCMeta|namedtuple"
    r"|NamedTuple|TypedDict|TYPE_CHECKING|abstractmethod)\b|dataclass|overload|contextmanager")

DOUBLE_METHODS = {"__init__", "__eq__", "__repr__", "__str__", "__len__"}

# Methods and values may be called so, though Python's own values have such methods.
LIKE_PYTHON = set("count index title find get join lower upper split strip copy add".split())

UNUSED_FORMS = (
    ast.With, ast.Match, ast.Global, ast.Nonlocal, ast.Yield, ast.YieldFrom, ast.Await, ast.AsyncFunctionDef,
    ast.AsyncFor, ast.AsyncWith, ast.GeneratorExp, ast.NamedExpr, ast.Div, ast.MatMult, ast.Import)


def faults(source, package):
    """The list of pairs of a row and what is wrong there."""
    tree = ast.parse(source)
    found = rows_at_fault(source)
    for node in ast.walk(tree):
        found += [(getattr(node, "lineno", 0), fault) for fault in faults_of(node, package)]
    found += [(row.lineno, "L3 something is done at the top") for row in tree.body if not stands_at_top(row)]
    found += twice_bound(tree)
    return sorted(set(found))


def rows_at_fault(source):
    rows = source.split("\n")
    found = [(0, "L10 file too long")] if len(rows) > 401 else []
    for at, row in enumerate(rows, start=1):
        if len(row) > 120:
            found.append((at, "L10 row too long"))
        if re.search(r"[^ -~]", row):
            found.append((at, "L14 a sign that is not used"))
        if UNUSED_WORDS.search(row):
            found.append((at, "L17 a word that stands nowhere"))
    return found


def faults_of(node, package):
    if isinstance(node, UNUSED_FORMS):
        yield "L6 L7 a form that is not used"
    if isinstance(node, (ast.For, ast.While)) and node.orelse:
        yield "L6 else behind a loop"
    if isinstance(node, ast.ImportFrom):
        yield from faults_of_import(node, package)
    if isinstance(node, ast.FunctionDef):
        yield from faults_of_def(node)
    if isinstance(node, ast.ClassDef):
        yield from faults_of_class(node)
    if isinstance(node, ast.Constant):
        yield from faults_of_constant(node)
    if isinstance(node, ast.FormattedValue) and node.format_spec:
        yield "L7 a format in an f-string"
    if isinstance(node, ast.Compare):
        yield from faults_of_comparison(node)
    if isinstance(node, ast.Raise) and not isinstance(node.exc, (ast.Call, type(None))):
        yield "L19 raise makes no error on the spot"
    if isinstance(node, ast.Starred) and isinstance(node.ctx, ast.Load):
        yield "L7 a star"
    yield from faults_of_names(node)


def faults_of_import(node, package):
    if node.module != "__future__" and not (node.module or "").startswith(package + "."):
        yield "L2 not the package's own"
    if node.level or any(alias.name == "*" or alias.asname for alias in node.names):
        yield "L2 not by full names"


def faults_of_def(node):
    if node.end_lineno - node.lineno + 1 > 40:
        yield "L10 def too long"
    if node.decorator_list or node.args.vararg or node.args.kwarg or node.args.posonlyargs:
        yield "L4 a parameter or decorator that is not used"
    defaults = node.args.defaults + node.args.kw_defaults
    if any(isinstance(default, (ast.List, ast.Dict, ast.Call)) for default in defaults):
        yield "L4 a default that is no plain value"


def faults_of_class(node):
    if node.decorator_list or node.keywords or len(node.bases) > 1:
        yield "L5 decorators, keywords or several bases"
    for row in node.body:
        if not isinstance(row, (ast.FunctionDef, ast.Pass)) and not is_docstring(row):
            yield "L5 a value in the class body"


def faults_of_constant(node):
    if isinstance(node.value, (float, complex)):
        yield "L7 a number with a point"
    if isinstance(node.value, str) and "%" in node.value:
        yield "L27 the sign of percent within a text"


def faults_of_comparison(node):
    for sign, right in zip(node.ops, node.comparators):
        if isinstance(sign, (ast.Is, ast.IsNot)):
            if not (isinstance(right, ast.Constant) and right.value in (None, True, False)):
                yield "L20 is beside another thing"


def names_of(node):
    if isinstance(node, ast.Name):
        return [node.id]
    if isinstance(node, ast.Attribute):
        return [node.attr]
    if isinstance(node, (ast.FunctionDef, ast.ClassDef)):
        return [node.name]
    if isinstance(node, ast.arg):
        return [node.arg]
    return []


def is_of_object(node):
    """Whether a name is a method's or a value's, which may be called like Python's own."""
    method = isinstance(node, ast.FunctionDef) and node.args.args and node.args.args[0].arg == "self"
    return isinstance(node, ast.Attribute) or bool(method)


def faults_of_names(node):
    for name in names_of(node):
        if name.startswith("_") and name not in DOUBLE_METHODS:
            yield f"L12 the name {name}"
        if name in UNUSED_NAMES:
            yield f"L17 the name {name}"
        if hasattr(builtins, name) and not is_of_object(node):
            if name not in OWN_NAMES:
                yield f"L8 the name {name}"
            if not isinstance(getattr(node, "ctx", None), ast.Load):
                yield f"L15 the name {name} is given another meaning"


def methods_of(trees):
    """The names of all methods of the package."""
    classes = [node for tree in trees for node in tree.body if isinstance(node, ast.ClassDef)]
    return {row.name for node in classes for row in node.body if isinstance(row, ast.FunctionDef)}


def attributes_of(trees, form):
    """The names that are given to objects (ast.Store) or asked of them (ast.Load) anywhere in the package."""
    nodes = [node for tree in trees for node in ast.walk(tree) if isinstance(node, ast.Attribute)]
    return {node.attr for node in nodes if isinstance(node.ctx, form)}


def called_of(trees):
    """The names that are called as methods anywhere in the package."""
    calls = [node for tree in trees for node in ast.walk(tree) if isinstance(node, ast.Call)]
    return {call.func.attr for call in calls if isinstance(call.func, ast.Attribute)}


def faults_together(sources):
    """What is wrong with methods and values of all files of the package together."""
    trees = [ast.parse(source) for source in sources]
    methods, given = methods_of(trees), attributes_of(trees, ast.Store)
    found = [f"L18 {name} is a method and a value" for name in methods & given]
    asked = attributes_of(trees, ast.Load) - called_of(trees)
    found += [f"L18 {name} is asked and given nowhere" for name in asked - given]
    found += [f"L26 {name} is Python's own" for name in (methods | given) - DOUBLE_METHODS if is_of_python(name)]
    return sorted(found)


def is_of_python(name):
    """Whether Python's own values have a method or a value so called that is not free for others."""
    return name not in LIKE_PYTHON and any(hasattr(kind, name) for kind in (str, int, list, dict, set, bytes, tuple))


def is_docstring(row):
    return isinstance(row, ast.Expr) and isinstance(row.value, ast.Constant) and isinstance(row.value.value, str)


def stands_at_top(row):
    if isinstance(row, ast.Assign):
        return len(row.targets) == 1 and not any(isinstance(part, ast.Call) for part in ast.walk(row.value))
    return is_docstring(row) or isinstance(row, (ast.ImportFrom, ast.FunctionDef, ast.ClassDef))


def top_names(tree):
    for row in tree.body:
        if isinstance(row, ast.Assign):
            yield from ((row.lineno, part.id) for part in ast.walk(row.targets[0]) if isinstance(part, ast.Name))
        if isinstance(row, (ast.FunctionDef, ast.ClassDef)):
            yield row.lineno, row.name
        if isinstance(row, ast.ImportFrom):
            yield from ((row.lineno, alias.name) for alias in row.names)


def twice_bound(tree):
    seen, found = set(), []
    for line, name in top_names(tree):
        if name in seen:
            found.append((line, f"L15 {name} is bound twice"))
        seen.add(name)
    closed = {alias.name for row in tree.body if isinstance(row, ast.ImportFrom) for alias in row.names}
    closed |= {row.name for row in tree.body if isinstance(row, ast.ClassDef)}
    for node in ast.walk(tree):
        stored = isinstance(node, ast.Name) and not isinstance(node.ctx, ast.Load)
        if (stored or isinstance(node, ast.arg)) and names_of(node)[0] in closed:
            found.append((node.lineno, f"L15 {names_of(node)[0]} is a class or an import"))
    return found
