"""Rules of files, lines, characters and strings: L1, L10, L12, L14, L17, L27."""

import ast
import builtins
import io
import os
import re
import tokenize
import warnings

from tests.language.sources import fault

NO_FILE_NAMES = {"heapq", "math", "itertools", "test", "tests", "testing", "site", "conftest",
                 "sitecustomize", "usercustomize"}
NO_WORDS = {
    "type", "typing", "typing_extensions", "enum", "Enum", "IntEnum", "StrEnum", "Flag", "IntFlag",
    "Generic", "Protocol", "ABC", "ABCMeta", "namedtuple", "NamedTuple", "TypedDict",
    "TYPE_CHECKING", "abstractmethod"}
NO_WORDS_WITHIN = ("dataclass", "overload", "contextmanager")
NO_TEXT = ("_wall", "_WallAttr")


def folder_faults(folder):
    """L1, L14: a folder of plain .py files and nothing else."""
    names = [name for name in os.listdir(folder) if name != "__pycache__"]
    found = []
    if "__init__.py" not in names:
        found.append(("L14", folder, 0, "no __init__.py"))
    if len(names) > 100:
        found.append(("L14", folder, 0, "more than 100 files"))
    for name in names:
        stem = name[:-3]
        if not re.fullmatch(r"[a-z0-9_]+\.py", name) or not os.path.isfile(f"{folder}/{name}"):
            found.append(("L1", name, 0, "no plain .py file"))
        barred = NO_FILE_NAMES | NO_WORDS | set(dir(builtins))
        if stem in barred or stem.startswith(("test_", "law_")):
            found.append(("L14", name, 0, "a barred name of a file"))
    return found


def text_faults(source):
    """L10, L14: sizes and characters."""
    found = []
    lines = source.text.split("\n")
    if len(lines) - 1 > 399:
        found.append(fault("L10", source, len(lines), "more than 399 lines"))
    for number, line in enumerate(lines, start=1):
        if len(line) > 120:
            found.append(fault("L10", source, number, "more than 120 characters"))
        if "\t" in line:
            found.append(fault("L10", source, number, "a tab"))
        if not re.fullmatch(r"[ -~\t]*", line):
            found.append(fault("L14", source, number, "a character beyond the blank to ~"))
        if any(word in line for word in NO_TEXT):
            found.append(fault("L12", source, number, "a barred word"))
    for node in source.nodes(ast.FunctionDef):
        if node.end_lineno - node.lineno + 1 > 40:
            found.append(fault("L10", source, node, "a function of more than 40 lines"))
    return found


def word_faults(source):
    """L17, L27: words in the code and its strings, escapes, and the signs of strings."""
    docstrings = {(node.lineno, node.col_offset) for node in source.docstrings}
    found = []
    for token in tokenize.generate_tokens(io.StringIO(source.text).readline):
        line = token.start[0]
        if token.type == tokenize.STRING:
            found += escape_faults(source, token)
        if token.type not in (tokenize.NAME, tokenize.STRING) or token.start in docstrings:
            continue
        for word in re.findall(r"\w+", token.string):
            if word in NO_WORDS and not plain_use(source, token, word):
                found.append(fault("L17", source, line, word))
            if any(part in word and part != word for part in NO_WORDS_WITHIN):
                found.append(fault("L17", source, line, word))
    return found


def plain_use(source, token, word):
    """`type` may stand in a string, and as type(x)."""
    line = source.text.split("\n")[token.start[0] - 1]
    return word == "type" and (token.type == tokenize.STRING or line[token.end[1]:].startswith("("))


def escape_faults(source, token):
    prefix = re.match(r"[A-Za-z]*", token.string).group().lower()
    found = []
    if prefix not in ("", "f", "b"):
        found.append(fault("L27", source, token.start[0], "a prefix of a string"))
    for escape in re.findall(r"\\(?s:.)", token.string):
        allowed = ("\\n", "\\t", "\\\\", "\\'", '\\"') + (("\\x",) if prefix == "b" else ())
        if escape not in allowed:
            found.append(fault("L27", source, token.start[0], "an escape"))
    return found


def string_faults(source):
    """L27: what strings hold."""
    found = []
    for node in source.nodes(ast.Constant):
        if not isinstance(node.value, str) or node in source.docstrings:
            continue
        text = node.value
        if "%" in text:
            found.append(fault("L27", source, node, "the percent sign in a string"))
        if text.endswith(("._", ".__")) or re.fullmatch("__.*__", text) and text != "__main__":
            found.append(fault("L27", source, node, "underscores in a string"))
        if re.search(r"(^|\W)__", text) and ("{" in text or "." in text and " " not in text):
            found.append(fault("L27", source, node, "a word that begins with two underscores"))
    return found


def warning_faults(source):
    """L27: no line for which Python itself gives a warning."""
    with warnings.catch_warnings(record=True) as caught:
        warnings.simplefilter("always")
        compile(source.text, source.name, "exec")
    return [fault("L27", source, one.lineno or 0, str(one.message)) for one in caught]


def file_faults(source):
    return (text_faults(source) + word_faults(source) + string_faults(source)
            + warning_faults(source))
