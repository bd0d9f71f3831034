"""The files of a package, read once for all checks."""

import ast
import os


class Source:
    """One file: its text, its tree, and what stands around each part of the tree."""

    def __init__(self, name, text):
        self.name = name
        self.text = text
        self.tree = ast.parse(text)
        self.parents = {}
        self.docstrings = set()
        for node in ast.walk(self.tree):
            for child in ast.iter_child_nodes(node):
                self.parents[child] = node
            self.note_docstring(node)

    def note_docstring(self, node):
        kinds = (ast.Module, ast.ClassDef, ast.FunctionDef)
        if isinstance(node, kinds) and ast.get_docstring(node, clean=False) is not None:
            self.docstrings.add(node.body[0].value)

    def nodes(self, *kinds):
        return [node for node in ast.walk(self.tree) if isinstance(node, kinds)]

    def around(self, node):
        """All that stands around a part, the nearest first."""
        found = []
        while node in self.parents:
            node = self.parents[node]
            found.append(node)
        return found

    def at_module_level(self, node):
        inner = (ast.FunctionDef, ast.ClassDef, ast.Lambda)
        return not any(isinstance(one, inner) for one in self.around(node))

    def in_class(self, function):
        return isinstance(self.parents[function], ast.ClassDef)

    def top_names(self):
        """The names bound at module level by the file itself, imports left out."""
        found = []
        for node in self.tree.body:
            if isinstance(node, (ast.FunctionDef, ast.ClassDef)):
                found.append(node.name)
            elif isinstance(node, ast.Assign):
                found += [one.id for one in node.targets if isinstance(one, ast.Name)]
        return found

    def imports(self):
        return self.nodes(ast.ImportFrom)

    def imported_names(self):
        return [alias.asname or alias.name for node in self.imports() for alias in node.names]


def fault(rule, source, node, words):
    line = node if isinstance(node, int) else getattr(node, "lineno", 0)
    return (rule, source.name, line, words)


def read_package(folder):
    """The sources of all .py files of a folder, by name."""
    found = []
    for name in sorted(os.listdir(folder)):
        if name.endswith(".py"):
            with open(os.path.join(folder, name), encoding="utf-8", newline="") as file:
                found.append(Source(name, file.read()))
    return found
