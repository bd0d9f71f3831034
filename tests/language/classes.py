"""Rules of methods and attributes, and of stars in calls: L7, L18, L22."""

import ast

from tests.language.sources import fault

BARE = (ast.Name, ast.Constant)


def methods_of(node):
    return [one for one in node.body if isinstance(one, ast.FunctionDef)]


def attributes_of(node):
    """The names that the methods of a class assign to their own object."""
    found = set()
    for method in methods_of(node):
        own = method.args.args[0].arg if method.args.args else None
        for part in ast.walk(method):
            if isinstance(part, ast.Attribute) and isinstance(part.ctx, ast.Store):
                if isinstance(part.value, ast.Name) and part.value.id == own:
                    found.add(part.attr)
    return found


def chain_of(node, classes):
    """A class and all above it that the package defines."""
    found = [node]
    for base in node.bases:
        if isinstance(base, ast.Name) and base.id in classes:
            found += chain_of(classes[base.id], classes)
    return found


def classes_in(sources):
    return {node.name: node for source in sources for node in source.nodes(ast.ClassDef)}


def naming_faults(source, sources):
    """L18: no method twice; no name is a method and an attribute of one object."""
    classes = classes_in(sources)
    found = []
    for node in source.nodes(ast.ClassDef):
        plain = [one.name for one in methods_of(node) if not one.decorator_list]
        for name in sorted({name for name in plain if plain.count(name) > 1}):
            found.append(fault("L18", source, node, f"{name} is defined twice"))
        above = chain_of(node, classes)
        methods = {one.name for part in above for one in methods_of(part) if not one.decorator_list}
        for name in sorted(methods & {name for part in above for name in attributes_of(part)}):
            found.append(fault("L18", source, node, f"{name} is a method and an attribute"))
    return found


def reading_faults(source, sources):
    """L18: an attribute that is read is assigned by some class, or a method of one."""
    known = {name for node in classes_in(sources).values()
             for name in attributes_of(node) | {one.name for one in methods_of(node)}}
    known |= {"__class__", "__name__"}
    found = []
    for node in source.nodes(ast.Attribute):
        call = source.parents[node]
        called = isinstance(call, ast.Call) and call.func is node
        if isinstance(node.ctx, ast.Load) and not called and node.attr not in known:
            chained = isinstance(call, ast.Attribute)
            if not chained:
                found.append(fault("L18", source, node, f"{node.attr} is assigned by no class"))
    return found


def method_call_faults(source, sources):
    """L22: a method that is called off its own object is there, and gets what it takes."""
    classes = classes_in(sources)
    found = []
    for node in source.nodes(ast.ClassDef):
        takes = {one.name: one.args for part in chain_of(node, classes) for one in methods_of(part)}
        known = takes.keys() | {name for part in chain_of(node, classes) for name in attributes_of(part)}
        for call in [part for part in ast.walk(node) if isinstance(part, ast.Call)]:
            if not is_off_self(call.func):
                continue
            if call.func.attr not in known:
                found.append(fault("L22", source, call, f"no method {call.func.attr}"))
            elif call.func.attr in takes and not is_right(call, takes[call.func.attr]):
                found.append(fault("L22", source, call, f"arguments of {call.func.attr}"))
    return found


def is_off_self(node):
    return (isinstance(node, ast.Attribute) and isinstance(node.value, ast.Name)
            and node.value.id == "self")


def is_right(call, args):
    """Whether a call off an object passes as many arguments as a method takes besides it."""
    if args.vararg or args.kwarg or any(isinstance(one, ast.Starred) for one in call.args):
        return True
    names = [one.arg for one in args.args[1:] + args.kwonlyargs]
    least = len(names) - len(args.defaults) - len([one for one in args.kw_defaults if one])
    if any(one.arg not in names for one in call.keywords):
        return False
    return least <= len(call.args) + len(call.keywords) <= len(names)


def star_faults(source):
    """L7: behind a star of a call stand names, attributes off a name, and literals."""
    found = []
    for node in source.nodes(ast.Call):
        for one in node.args:
            if isinstance(one, ast.Starred) and not is_bare(one.value):
                found.append(fault("L7", source, one, "a star before that"))
    return found


def is_bare(node):
    if isinstance(node, (ast.List, ast.Tuple)):
        return all(is_bare(one) for one in node.elts)
    return isinstance(node, BARE) or isinstance(node, ast.Attribute) and isinstance(node.value, ast.Name)


def object_faults(source, sources):
    return (naming_faults(source, sources) + reading_faults(source, sources)
            + method_call_faults(source, sources) + star_faults(source))
