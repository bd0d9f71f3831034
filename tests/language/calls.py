"""Rules of calls, iteration and sets: L8, L15, L18, L22, L23, L24, L25."""

import ast

from tests.language.sources import fault

METHODS = set(
    "append clear copy count endswith extend find get index insert isalnum isalpha isdigit islower "
    "isspace isupper items join keys ljust lower lstrip partition pop remove replace reverse rfind "
    "rjust rpartition rsplit rstrip setdefault split splitlines startswith strip update upper "
    "values zfill bit_length title capitalize swapcase casefold center expandtabs removeprefix "
    "removesuffix rindex isascii isdecimal isnumeric istitle isidentifier isprintable encode decode "
    "translate maketrans from_bytes sort format add discard appendleft popleft extendleft rotate "
    "from_iterable".split())
CHANGING = {"append", "clear", "extend", "insert", "pop", "remove", "reverse", "setdefault", "sort",
            "update", "add", "discard", "appendleft", "popleft", "extendleft", "rotate"}
KEYWORDS = {
    "sorted": {"key", "reverse"}, "min": {"key", "default"}, "max": {"key", "default"},
    "sum": {"start"}, "enumerate": {"start"}, "zip": {"strict"}, "print": {"sep", "end", "file"}}
PASSIVE = {"zip", "enumerate", "reversed", "range", "map"}
TAKERS = {"list", "tuple", "dict", "sorted", "sum", "any", "all", "enumerate", "zip", "min", "max",
          "iter"}
ALSO_RANGES = {"len", "reversed"}
FUNCTIONS = {
    "len", "range", "enumerate", "zip", "min", "max", "sum", "abs", "sorted", "reversed", "ord",
    "repr", "any", "all", "divmod", "pow", "isinstance", "iter", "next", "map"}
KEYS = {"len", "int", "str", "abs", "sum", "min", "max", "tuple"}


def call_name(node):
    if isinstance(node, ast.Call) and isinstance(node.func, ast.Name):
        return node.func.id
    return None


def method_faults(source, own):
    """L25, L26: only these methods, or own ones."""
    found = []
    for node in source.nodes(ast.Call):
        if isinstance(node.func, ast.Attribute):
            name = node.func.attr
            if name not in METHODS | own and not name.startswith("__"):
                found.append(fault("L25", source, node, name))
            if node.keywords and name in METHODS - own - {"sort", "format", "from_bytes"}:
                found.append(fault("L25", source, node, name))
    return found


def builtin_faults(source):
    """L22: keywords of builtins, and builtins as values."""
    found = []
    for node in source.nodes(ast.Call):
        name = call_name(node)
        if name in FUNCTIONS | {"int", "str", "bool", "list", "tuple", "dict", "set", "print"}:
            extra = {one.arg for one in node.keywords} - KEYWORDS.get(name, set())
            if extra:
                found.append(fault("L22", source, node, f"{name} with {extra}"))
    for node in source.nodes(ast.Name):
        if node.id in FUNCTIONS and isinstance(node.ctx, ast.Load) and not is_called(source, node):
            keyword = isinstance(source.parents[node], ast.keyword) and node.id in KEYS
            mapped = call_name(source.parents[node]) == "map"
            if not keyword and not mapped:
                found.append(fault("L22", source, node, f"{node.id} as a value"))
    return found


def is_called(source, node):
    parent = source.parents[node]
    return isinstance(parent, ast.Call) and parent.func is node


def is_passive(node):
    """A call whose answer is to be iterated on the spot."""
    if call_name(node) in PASSIVE:
        return True
    views = ("items", "keys", "values")
    return (isinstance(node, ast.Call) and isinstance(node.func, ast.Attribute)
            and node.func.attr in views and not node.args)


def is_iterated(source, node):
    parent = source.parents[node]
    if isinstance(parent, (ast.For, ast.comprehension)):
        return parent.iter is node
    if isinstance(parent, ast.YieldFrom) or isinstance(parent, ast.Call) and is_join(parent):
        return True
    name = call_name(parent)
    if name in ALSO_RANGES and (call_name(node) == "range" or name == "len"):
        return True
    if isinstance(parent, ast.Compare) and isinstance(parent.ops[0], (ast.In, ast.NotIn)):
        return True
    if call_name(node) == "map" and isinstance(parent, ast.Assign):
        return isinstance(parent.targets[0], ast.Tuple)
    return name in TAKERS or is_kept(source, parent)


def is_join(node):
    return isinstance(node.func, ast.Attribute) and node.func.attr == "join"


def is_kept(source, parent):
    """L23 Kept ranges, zips and views: assigned to a plain local variable."""
    return (isinstance(parent, ast.Assign) and len(parent.targets) == 1
            and isinstance(parent.targets[0], ast.Name) and not source.at_module_level(parent))


def iteration_faults(source):
    """L23: zip, enumerate, views and the like are iterated at once; a loop leaves its list alone."""
    found = []
    for node in source.nodes(ast.Call):
        if is_passive(node) and not is_iterated(source, node):
            found.append(fault("L23", source, node, "not iterated at once"))
    for loop in source.nodes(ast.For):
        over = {ast.dump(part) for part in ast.walk(loop.iter)
                if isinstance(part, (ast.Name, ast.Attribute)) and not is_called(source, part)}
        if call_name(loop.iter) in ("list", "sorted", "tuple", "range"):
            continue
        for part in [inner for row in loop.body for inner in ast.walk(row)]:
            changed = changed_part(part)
            if changed is not None and ast.dump(changed).replace("Store", "Load") in over:
                found.append(fault("L23", source, part, "the loop changes what it goes over"))
    return found


def changed_part(node):
    """What a call of a changing method, or the assignment of an item, changes."""
    if isinstance(node, ast.Call) and isinstance(node.func, ast.Attribute) and node.func.attr in CHANGING:
        return node.func.value
    if isinstance(node, ast.Subscript) and isinstance(node.ctx, (ast.Store, ast.Del)):
        return node.value
    return None


def set_faults(source):
    """L24: where a set stands, and that none is iterated, passed on or returned."""
    found = []
    for node in source.nodes(ast.Set, ast.SetComp, ast.Call):
        if isinstance(node, ast.Call) and call_name(node) not in ("set", "frozenset"):
            continue
        parent = source.parents[node]
        while isinstance(parent, ast.BinOp):
            parent = source.parents[parent]
        compared = isinstance(parent, ast.Compare)
        if not compared and call_name(parent) not in ("sorted", "len") and not is_kept(source, parent):
            found.append(fault("L24", source, node, "a set stands there"))
    for function in source.nodes(ast.FunctionDef):
        found += stored_set_faults(source, function)
    return found


def stored_set_faults(source, function):
    names = {node.targets[0].id for node in ast.walk(function)
             if isinstance(node, ast.Assign) and isinstance(node.targets[0], ast.Name)
             and (isinstance(node.value, (ast.Set, ast.SetComp)) or call_name(node.value) == "set")}
    found = []
    for node in ast.walk(function):
        if isinstance(node, ast.Name) and node.id in names and isinstance(node.ctx, ast.Load):
            if not is_use_of_set(source, node):
                found.append(fault("L24", source, node, "a stored set is used so"))
    for inner in ast.walk(function):
        if isinstance(inner, (ast.FunctionDef, ast.Lambda)) and inner is not function:
            if any(isinstance(node, ast.Name) and node.id in names for node in ast.walk(inner)):
                found.append(fault("L24", source, inner, "a stored set is named within"))
    for name in sorted(names):
        stores = [node for node in ast.walk(function) if isinstance(node, ast.Name)
                  and node.id == name and isinstance(node.ctx, ast.Store)]
        if len(stores) > 1:
            found.append(fault("L24", source, stores[1], "a stored set is assigned again"))
    return found


def is_use_of_set(source, node):
    parent = source.parents[node]
    if isinstance(parent, ast.Attribute):
        return parent.attr in ("add", "discard")
    if isinstance(parent, ast.Compare):
        return isinstance(parent.ops[-1], (ast.In, ast.NotIn, ast.Eq, ast.NotEq))
    if isinstance(parent, (ast.If, ast.While, ast.Assert, ast.IfExp)):
        return parent.test is node
    unary = isinstance(parent, ast.UnaryOp) and isinstance(parent.op, ast.Not)
    return unary or isinstance(parent, ast.BoolOp) or call_name(parent) in ("len", "sorted")


def top_value_faults(source):
    """L15: no function changes a list or dict that stands at module level."""
    names = {node.targets[0].id for node in source.tree.body
             if isinstance(node, ast.Assign) and isinstance(node.targets[0], ast.Name)}
    found = []
    for node in source.nodes(ast.Call, ast.Subscript):
        changed = changed_part(node)
        if isinstance(changed, ast.Name) and changed.id in names:
            found.append(fault("L15", source, node, "a value at module level is changed"))
    return found


def class_value_faults(source):
    """L18: a class is called, a base class, caught, raised, or stands in isinstance."""
    classes = {node.name for node in source.nodes(ast.ClassDef)}
    classes |= {name for name in source.imported_names() if name[0].isupper() and not name.isupper()}
    found = []
    for node in source.nodes(ast.Name):
        if node.id not in classes or not isinstance(node.ctx, ast.Load):
            continue
        parent = source.parents[node]
        if isinstance(parent, ast.Tuple):
            parent = source.parents[parent]
        in_call = is_called(source, node) or call_name(parent) == "isinstance"
        stands = isinstance(parent, (ast.ClassDef, ast.ExceptHandler, ast.Attribute, ast.arg,
                                     ast.FunctionDef, ast.MatchClass, ast.Compare, ast.Raise))
        if not in_call and not stands:
            found.append(fault("L18", source, node, "a class as a value"))
    return found


def functions_of(source):
    return {node.name: node.args for node in source.tree.body if isinstance(node, ast.FunctionDef)}


def argument_faults(source, sources):
    """L22: calls of the package's own functions pass what they take."""
    takes = functions_of(source)
    files = {one.name[:-3]: functions_of(one) for one in sources}
    for node in source.imports():
        theirs = files.get((node.module or "").rpartition(".")[2], {})
        takes.update({one.name: theirs[one.name] for one in node.names if one.name in theirs})
    found = []
    for node in source.nodes(ast.Call):
        args = takes.get(call_name(node))
        if args is None or args.vararg or args.kwarg:
            continue
        starred = [one for one in node.args if isinstance(one, ast.Starred)]
        if starred or any(one.arg is None for one in node.keywords):
            continue
        names = [one.arg for one in args.args + args.posonlyargs + args.kwonlyargs]
        least = len(names) - len(args.defaults) - len([one for one in args.kw_defaults if one])
        many = len(node.args) + len(node.keywords)
        if not least <= many <= len(names) or any(one.arg not in names for one in node.keywords):
            found.append(fault("L22", source, node, "arguments"))
    return found


def call_faults(source, own, sources):
    return (method_faults(source, own) + builtin_faults(source) + iteration_faults(source)
            + set_faults(source) + top_value_faults(source) + class_value_faults(source)
            + argument_faults(source, sources))
