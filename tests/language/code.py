"""Rules of statements, expressions, classes and errors: L3 to L9, L13, L18 to L21, L27."""

import ast
import re

from tests.language.sources import fault

STATEMENTS = (
    ast.Assign, ast.AugAssign, ast.AnnAssign, ast.If, ast.While, ast.For, ast.Return, ast.Break,
    ast.Continue, ast.Pass, ast.Raise, ast.Assert, ast.Delete, ast.Nonlocal, ast.Global, ast.Match,
    ast.With, ast.Try, ast.Expr, ast.FunctionDef, ast.ClassDef, ast.Import, ast.ImportFrom)
NO_EXPRESSIONS = (
    ast.Await, ast.AsyncFunctionDef, ast.AsyncFor, ast.AsyncWith, ast.Div, ast.MatMult,
    ast.MatchMapping)
CONSTANTS = (int, str, bytes, bool)
NO_HANDLERS = {
    "Exception", "BaseException", "TypeError", "ArithmeticError", "OverflowError", "RuntimeError",
    "NotImplementedError", "AttributeError"}
DECORATORS = {"property", "staticmethod", "classmethod"}
SIGNS = (ast.Add, ast.Sub, ast.Mult, ast.FloorDiv, ast.Mod, ast.Pow, ast.LShift, ast.RShift,
         ast.BitAnd, ast.BitOr, ast.BitXor)


def is_docstring(source, node):
    return isinstance(node, ast.Expr) and node.value in source.docstrings


def is_plain(node):
    """A plain value: integers, strings, bytes, True, False, None, and tuples of these."""
    if isinstance(node, ast.UnaryOp) and isinstance(node.op, ast.USub):
        return isinstance(node.operand, ast.Constant) and isinstance(node.operand.value, int)
    if isinstance(node, ast.Tuple):
        return all(is_plain(one) for one in node.elts)
    return isinstance(node, ast.Constant) and (node.value is None or isinstance(node.value, CONSTANTS))


def is_top_value(node, functions):
    """What L3 lets stand at module level; no list or dict within another value (L15)."""
    if isinstance(node, ast.List):
        parts = node.elts
    elif isinstance(node, ast.Dict):
        parts = [*node.keys, *node.values]
    else:
        parts = [node]
    return all(is_top_part(part, functions) for part in parts)


def is_top_part(node, functions):
    if isinstance(node, ast.Tuple):
        return all(is_top_part(one, functions) for one in node.elts)
    if isinstance(node, ast.BinOp):
        return is_top_part(node.left, functions) and is_top_part(node.right, functions)
    return is_plain(node) or isinstance(node, ast.Name) and node.id in functions


def module_faults(source):
    """L3, L15: what stands at module level."""
    found = []
    functions = set(source.imported_names())
    for place, node in enumerate(source.tree.body):
        if isinstance(node, (ast.FunctionDef, ast.ClassDef)):
            functions.add(node.name)
        elif isinstance(node, ast.Assign):
            one_name = len(node.targets) == 1 and isinstance(node.targets[0], ast.Name)
            if not one_name or not is_top_value(node.value, functions):
                found.append(fault("L3", source, node, "no plain value of one name"))
            functions |= {one.id for one in node.targets if isinstance(one, ast.Name)}
        elif not isinstance(node, (ast.Import, ast.ImportFrom)):
            main = source.name == "__main__.py" and isinstance(node, ast.If)
            if not (is_docstring(source, node) and place == 0) and not main:
                found.append(fault("L3", source, node, "code at module level"))
    for node in source.nodes(ast.ClassDef):
        if source.parents[node] is not source.tree:
            found.append(fault("L15", source, node, "a class that is not at module level"))
    return found


def function_faults(source):
    """L4, L5, L28: decorators, default values, and what double-underscore methods return."""
    found = []
    for node in source.nodes(ast.FunctionDef, ast.ClassDef):
        for one in node.decorator_list:
            setter = isinstance(one, ast.Attribute) and one.attr == "setter"
            named = isinstance(one, ast.Name) and one.id in DECORATORS
            method = isinstance(node, ast.FunctionDef) and source.in_class(node)
            if not method or not (setter or named):
                found.append(fault("L4", source, node, "a decorator"))
    for node in source.nodes(ast.FunctionDef, ast.Lambda):
        for default in node.args.defaults + [one for one in node.args.kw_defaults if one]:
            if not is_default(default):
                found.append(fault("L4", source, default, "a default value"))
    for node in source.nodes(ast.FunctionDef):
        if node.name == "__init__":
            for inner in ast.walk(node):
                if isinstance(inner, ast.Return) and inner.value is not None:
                    found.append(fault("L28", source, inner, "__init__ returns something"))
    return found


def is_default(node):
    if isinstance(node, ast.BinOp):
        return is_default(node.left) and is_default(node.right) and isinstance(node.op, SIGNS)
    return is_plain(node) or isinstance(node, ast.Name)


def class_faults(source):
    """L5: what stands in the body of a class."""
    found = []
    for node in source.nodes(ast.ClassDef):
        if node.keywords or not all(isinstance(base, ast.Name) for base in node.bases):
            found.append(fault("L5", source, node, "a base class"))
        for part in node.body:
            allowed = isinstance(part, (ast.FunctionDef, ast.Assign, ast.Pass))
            if not allowed and not is_docstring(source, part):
                found.append(fault("L5", source, part, "no method and no class value"))
    return found


def statement_faults(source):
    """L6, L21: the statements that are allowed."""
    found = []
    for node in source.nodes(ast.stmt):
        if not isinstance(node, STATEMENTS):
            found.append(fault("L6", source, node, type(node).__name__))
        if isinstance(node, ast.AnnAssign) and node.value is None:
            found.append(fault("L21", source, node, "an annotation without a value"))
        if isinstance(node, ast.Expr) and not is_docstring(source, node):
            if not isinstance(node.value, (ast.Call, ast.Yield, ast.YieldFrom)):
                found.append(fault("L6", source, node, "an expression on its own"))
        if isinstance(node, ast.Delete):
            if any(isinstance(one, (ast.Attribute, ast.Tuple, ast.List)) for one in node.targets):
                found.append(fault("L6", source, node, "del of that"))
    return found


def expression_faults(source):
    """L7, L9, L11: the values and expressions that are allowed."""
    found = []
    for node in source.nodes(ast.AST):
        if isinstance(node, NO_EXPRESSIONS):
            found.append(fault("L7", source, node, type(node).__name__))
        if isinstance(node, ast.Constant) and node.value is not None:
            dots = node.value is Ellipsis and isinstance(source.parents[node], (ast.Tuple, ast.Subscript))
            if not isinstance(node.value, CONSTANTS) and not dots:
                found.append(fault("L7", source, node, "a value that is not allowed"))
        if isinstance(node, ast.Call) and isinstance(node.func, ast.Constant):
            found.append(fault("L7", source, node, "a literal is called"))
        if isinstance(node, ast.BinOp) and isinstance(node.op, ast.Pow) and not is_exponent(source, node):
            found.append(fault("L27", source, node, "an exponent"))
        if isinstance(node, ast.comprehension) and node.is_async:
            found.append(fault("L7", source, node.iter, "async"))
        if isinstance(node, ast.NamedExpr):
            found += walrus_faults(source, node)
    return found


def is_exponent(source, node):
    """A literal from 0 to 64, or the variable of a loop over such a range."""
    right = node.right
    if isinstance(right, ast.Constant):
        return isinstance(right.value, int) and 0 <= right.value <= 64
    if isinstance(right, ast.BinOp) and isinstance(right.op, ast.Mod):
        many = right.right
        return isinstance(many, ast.Constant) and isinstance(many.value, int) and many.value <= 65
    loops = [one for one in source.nodes(ast.For, ast.comprehension)
             if isinstance(one.target, ast.Name) and isinstance(right, ast.Name)
             and one.target.id == right.id]
    return bool(loops) and all(is_short_range(one.iter) for one in loops)


def is_short_range(node):
    if not (isinstance(node, ast.Call) and isinstance(node.func, ast.Name) and node.func.id == "range"):
        return False
    ends = [one.value for one in node.args if isinstance(one, ast.Constant)]
    return len(ends) == len(node.args) <= 2 and all(0 <= end <= 64 for end in ends)


def walrus_faults(source, node):
    inner = (ast.GeneratorExp, ast.Lambda, ast.JoinedStr, ast.Assert)
    for one in source.around(node):
        if isinstance(one, inner):
            return [fault("L7", source, node, ":= in that")]
        if isinstance(one, (ast.If, ast.While, ast.comprehension)):
            return []
        if isinstance(one, ast.stmt):
            break
    return [fault("L7", source, node, ":= outside of a test")]


def generator_expression_faults(source):
    """L7: where a generator expression stands."""
    takers = {"list", "tuple", "dict", "sorted", "sum", "min", "max", "any", "all"}
    found = []
    for node in source.nodes(ast.GeneratorExp):
        call = source.parents[node]
        named = isinstance(call, ast.Call) and isinstance(call.func, ast.Name) and call.func.id in takers
        joined = (isinstance(call, ast.Call) and isinstance(call.func, ast.Attribute)
                  and call.func.attr == "join" and isinstance(call.func.value, ast.Constant))
        nexted = isinstance(call, ast.Call) and isinstance(call.func, ast.Name) and call.func.id == "next"
        if not (named or joined or nexted):
            found.append(fault("L7", source, node, "a generator expression"))
    return found


def error_faults(source):
    """L19: what is caught and what is raised."""
    found = []
    for node in source.nodes(ast.ExceptHandler):
        kinds = node.type.elts if isinstance(node.type, ast.Tuple) else [node.type]
        for kind in kinds or [None]:
            if not isinstance(kind, ast.Name) or kind.id in NO_HANDLERS:
                found.append(fault("L19", source, node, "a handler"))
    for node in source.nodes(ast.Raise):
        if node.exc is None:
            handlers = [one for one in source.around(node) if isinstance(one, ast.ExceptHandler)]
            if not handlers:
                found.append(fault("L19", source, node, "a bare raise"))
        elif not (isinstance(node.exc, ast.Call) and isinstance(node.exc.func, ast.Name)
                  and re.match("[A-Z]", node.exc.func.id)):
            found.append(fault("L19", source, node, "raise of that"))
    return found


def comparison_faults(source):
    """L20: `is` stands with None, True and False."""
    found = []
    for node in source.nodes(ast.Compare):
        sides = [node.left, *node.comparators]
        for k, sign in enumerate(node.ops):
            if not isinstance(sign, (ast.Is, ast.IsNot)):
                continue
            pair = sides[k:k + 2]
            plain = any(isinstance(one, ast.Constant) and one.value in (None, True, False) for one in pair)
            asked = all(isinstance(one, ast.Name) or is_call_of(one, "type") for one in pair)
            if not plain and not asked:
                found.append(fault("L20", source, node, "is"))
    return found


def is_call_of(node, *names):
    return isinstance(node, ast.Call) and isinstance(node.func, ast.Name) and node.func.id in names


def literal_set_faults(source):
    """L13: no literal set of three or more integers but behind `in`."""
    found = []
    for node in source.nodes(ast.Set):
        whole = [one for one in node.elts if isinstance(one, (ast.Constant, ast.UnaryOp)) and is_plain(one)
                 and not (isinstance(one, ast.Constant) and isinstance(one.value, str))]
        behind_in = (isinstance(source.parents[node], ast.Compare)
                     and isinstance(source.parents[node].ops[-1], (ast.In, ast.NotIn)))
        if len(whole) > 2 and not behind_in:
            found.append(fault("L13", source, node, "a literal set of integers"))
    lines = [node.lineno for node in source.nodes(ast.Lambda)]
    for line in sorted({line for line in lines if lines.count(line) > 1}):
        found.append(fault("L13", source, line, "two lambdas on one line"))
    return found


def code_faults(source):
    return (module_faults(source) + function_faults(source) + class_faults(source)
            + statement_faults(source) + expression_faults(source)
            + generator_expression_faults(source) + error_faults(source)
            + comparison_faults(source) + literal_set_faults(source))
