"""Rules of names and imports: L2, L8, L12, L15, L16, L17, L26."""

import ast
import builtins
import re

from tests.language.sources import fault

BUILTINS = {
    "len", "range", "enumerate", "zip", "min", "max", "sum", "abs", "sorted", "reversed", "int",
    "str", "bool", "bytes", "list", "tuple", "dict", "set", "frozenset", "isinstance", "ord",
    "repr", "any", "all", "divmod", "pow", "getattr", "hasattr", "setattr", "iter", "next", "map",
    "type", "super", "property", "staticmethod", "classmethod", "object", "float", "print",
    "Exception", "ValueError", "TypeError", "KeyError", "IndexError", "LookupError",
    "ZeroDivisionError", "ArithmeticError", "OverflowError", "RuntimeError",
    "NotImplementedError", "AttributeError", "StopIteration", "NotImplemented"}
# Showing a value at the prompt, as a doctest does, lets `_` stand among the builtins.
OF_PYTHON = set(dir(builtins)) - {"_"}
ONLY_IN_ANNOTATIONS = {"object", "float"}
LIBRARY = {
    "heapq": {"heappush", "heappop", "heapify", "heapreplace", "heappushpop"},
    "math": {"gcd", "lcm", "isqrt", "comb", "perm", "factorial"},
    "itertools": {"product", "combinations", "permutations", "chain", "accumulate", "pairwise",
                  "islice", "zip_longest"},
    "collections": {"defaultdict", "deque"},
    "__future__": {"annotations"}}
NO_NAMES = {"register", "mro", "elements", "open", "input", "law", "version_info",
            "with_traceback", "add_note"}
NO_VARIABLES = {
    "attrgetter", "breakpoint", "builtins", "compile", "copyright", "credits", "delattr", "dir",
    "eval", "exec", "exit", "gc", "getattr", "globals", "hasattr", "help", "id", "importlib",
    "license", "locals", "methodcaller", "os", "quit", "setattr", "super", "type", "vars", "sys"}
NO_BEGINNINGS = ("_wall", "_pe_", "_dcw_", "_enum_", "_cm_", "_twin_re_", "_lay_", "_law_",
                 "_stub_", "_sre", "_WallAttr")
NO_ATTRIBUTES = {
    "format", "format_map", "mro", "items", "keys", "values", "pop", "update", "append", "clear",
    "extend", "insert", "remove", "reverse", "setdefault", "sort", "args", "encode", "decode",
    "hex", "fromhex", "as_integer_ratio", "bit_count", "conjugate", "from_bytes", "is_integer",
    "to_bytes"}
DOUBLE = {
    "__init__", "__eq__", "__repr__", "__str__", "__len__", "__enter__", "__exit__", "__call__",
    "__iter__", "__lt__", "__le__", "__gt__", "__ge__", "__ne__", "__neg__", "__pos__",
    "__invert__", "__abs__", "__bool__", "__contains__", "__getitem__", "__setitem__"}
for sign in ("add", "sub", "mul", "floordiv", "mod", "pow", "and", "or", "xor", "lshift", "rshift"):
    DOUBLE |= {f"__{sign}__", f"__i{sign}__"} | ({f"__r{sign}__"} if sign != "pow" else set())


def bindings(source):
    """(name, node, kind) for all that binds a name; kind: function, method, class, import, name."""
    found = []
    for node in ast.walk(source.tree):
        if isinstance(node, ast.FunctionDef):
            found.append((node.name, node, "method" if source.in_class(node) else "function"))
        elif isinstance(node, ast.ClassDef):
            found.append((node.name, node, "class"))
        elif isinstance(node, ast.alias):
            found.append((node.asname or node.name, node, "import"))
        elif isinstance(node, ast.arg):
            found.append((node.arg, node, "name"))
        elif isinstance(node, ast.Name) and isinstance(node.ctx, ast.Store):
            found.append((node.id, node, "name"))
        elif isinstance(node, (ast.ExceptHandler, ast.MatchAs, ast.MatchStar)) and node.name:
            found.append((node.name, node, "name"))
    return found


def binding_faults(source):
    """L5, L8, L12, L15, L17: names that are bound."""
    found = []
    shared = set(source.imported_names()) | {node.name for node in source.nodes(ast.ClassDef)}
    for name, node, kind in bindings(source):
        if kind == "method" and name.startswith("__"):
            if name not in DOUBLE:
                found.append(fault("L5", source, node, name))
            continue
        if name in NO_NAMES or name in NO_VARIABLES:
            found.append(fault("L17", source, node, name))
        if not plain(name) or (kind == "class" and name.startswith("_")):
            found.append(fault("L12", source, node, name))
        if name in OF_PYTHON and (kind != "method" or name in BUILTINS):
            found.append(fault("L15", source, node, name))
        local = kind == "name" or (kind == "function" and not source.at_module_level(node))
        if local and name in shared:
            found.append(fault("L15", source, node, name))
    return found


def plain(name):
    if name == "_":
        return True
    return bool(re.fullmatch(r"_?[A-Za-z]\w*", name, re.ASCII)) and not name.startswith(NO_BEGINNINGS)


def once_faults(source):
    """L15: a name is bound once at module level."""
    names = source.top_names() + source.imported_names()
    return [fault("L15", source, 0, name) for name in names if names.count(name) > 1]


def reading_faults(source):
    """L8, L12: names that are read are bound in the file, or builtins that are allowed."""
    bound = {name for name, node, kind in bindings(source) if kind != "method"}
    found = []
    for node in source.nodes(ast.Name):
        if node.id == "_" and isinstance(node.ctx, ast.Load):
            found.append(fault("L12", source, node, "_ is read"))
        if not isinstance(node.ctx, ast.Load) or node.id in bound:
            continue
        main = source.name == "__main__.py"
        if node.id not in BUILTINS and not (main and node.id == "__name__"):
            found.append(fault("L8", source, node, node.id))
        if node.id in ONLY_IN_ANNOTATIONS and not in_annotation(source, node):
            found.append(fault("L8", source, node, node.id))
        if node.id == "print" and not main:
            found.append(fault("L9", source, node, node.id))
    return found


def in_annotation(source, node):
    chain = [node] + source.around(node)
    for inner, outer in zip(chain, chain[1:]):
        if inner in (getattr(outer, "annotation", None), getattr(outer, "returns", None)):
            return True
    return False


def attribute_faults(source):
    """L8, L17, L26: attributes."""
    found = []
    for node in source.nodes(ast.Attribute):
        name = node.attr
        if name.startswith("__") and name not in ("__init__", "__class__", "__name__"):
            found.append(fault("L8", source, node, name))
        if name in NO_NAMES:
            found.append(fault("L17", source, node, name))
        if isinstance(node.ctx, ast.Store) and name in NO_ATTRIBUTES:
            found.append(fault("L26", source, node, name))
    return found


def import_faults(source, package, sources):
    """L2, L15, L16: imports stand at the top, and name the very file that defines the name."""
    found = []
    by_name = {f"{package}.{one.name[:-3]}": one for one in sources}
    top = [node for node in source.tree.body
           if not (isinstance(node, ast.Expr) and node.value in source.docstrings)]
    kinds = (ast.Import, ast.ImportFrom)
    for place, node in enumerate(top):
        if isinstance(node, kinds) and not all(isinstance(one, kinds) for one in top[:place]):
            found.append(fault("L2", source, node, "an import below other code"))
    for node in source.nodes(*kinds):
        if node not in source.tree.body:
            found.append(fault("L2", source, node, "an import within other code"))
        if isinstance(node, ast.Import):
            if source.name != "__main__.py" or [one.name for one in node.names] != ["sys"]:
                found.append(fault("L2", source, node, "import without from"))
        elif node.level or any(alias.name == "*" for alias in node.names):
            found.append(fault("L2", source, node, "a leading dot or a star"))
        elif node.module in LIBRARY:
            if any(one.asname or one.name not in LIBRARY[node.module] for one in node.names):
                found.append(fault("L2", source, node, node.module))
        elif node.module not in by_name or node.module.endswith("__main__"):
            found.append(fault("L2", source, node, node.module))
        elif any(one.name not in by_name[node.module].top_names() for one in node.names):
            found.append(fault("L16", source, node, "another file defines the name"))
    return found


def circle_faults(package, sources):
    """L16: no two files import from each other, directly or through others."""
    leads = {source.name[:-3]: set() for source in sources}
    for source in sources:
        for node in source.imports():
            if (node.module or "").startswith(package + "."):
                leads[source.name[:-3]] |= {node.module[len(package) + 1:], "__init__"}
    found = []
    for source in sources:
        met, open_ends = set(), [source.name[:-3]]
        while open_ends:
            new = leads.get(open_ends.pop(), set()) - met
            met |= new
            open_ends += new
        if source.name[:-3] in met:
            found.append(fault("L16", source, 0, "imports in a circle"))
    return found


def library_faults(source):
    """L2: names of the library are only called, in a function, with arguments by position."""
    names = {alias.name for node in source.imports() if node.module in LIBRARY
             for alias in node.names if node.module != "__future__"}
    found = []
    for node in source.nodes(ast.Name):
        if node.id not in names:
            continue
        call = source.parents[node]
        called = isinstance(call, ast.Call) and call.func is node
        chained = isinstance(call, ast.Attribute) and node.id == "chain"
        if not (called or chained) or source.at_module_level(node):
            found.append(fault("L2", source, node, node.id))
        elif called and call.keywords and node.id != "zip_longest":
            found.append(fault("L2", source, node, node.id))
    return found


def name_faults(source, package, sources):
    return (binding_faults(source) + once_faults(source) + reading_faults(source)
            + attribute_faults(source) + import_faults(source, package, sources)
            + library_faults(source))
