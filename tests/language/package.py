"""All checks of a package at once."""

import ast

from tests.language.calls import call_faults
from tests.language.classes import object_faults
from tests.language.code import code_faults
from tests.language.files import file_faults, folder_faults
from tests.language.names import circle_faults, name_faults
from tests.language.sources import Source, read_package


def package_faults(folder, package):
    return folder_faults(folder) + source_faults(package, read_package(folder))


def source_faults(package, sources):
    own = {node.name for source in sources for node in source.nodes(ast.FunctionDef)
           if source.in_class(node)}
    found = circle_faults(package, sources)
    for source in sources:
        found += file_faults(source)
        found += name_faults(source, package, sources)
        found += code_faults(source)
        found += call_faults(source, own, sources)
        found += object_faults(source, sources)
    return found


def text_faults_of(text, name="rows.py"):
    """The faults of one file on its own, beside an `__init__.py` and a file of two functions."""
    others = [Source("__init__.py", ""), Source("other.py", "def low(n):\n    return n\n")]
    return source_faults("pack", [*others, Source(name, text)])
