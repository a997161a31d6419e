"""Sources as sound libraries, and flat systems as texts."""

from linkwork.errors import BadModel
from linkwork.expressions import expression_text
from linkwork.library import check_library
from linkwork.ratios import Ratio, ratio_text
from linkwork.syntax import parse_source, parse_tree


def library(source):
    """The classes of a source, which is sound."""
    classes = parse_source(source)
    check_library(classes)
    return classes


def changes(text):
    """The modifications that a text in parentheses stands for."""
    return parse_source(f"model M extends N({text}); end M;")[0].extends[0][1]


def statement(text):
    """The statement of a text."""
    return parse_source(f"model M equation {text} end M;")[0].equations[0]


def is_refused(function, *arguments):
    """Whether the function raises BadModel; other errors are not caught."""
    try:
        function(*arguments)
    except BadModel as error:
        return error.__class__ is BadModel
    return False


def value_text(value):
    return value if value is None else ratio_text(value)


def variable_texts(entries):
    """The entries of a dict by their paths: names of classes, and kind, value, start of Variables with * if fixed."""
    found = {}
    for path, entry in entries.items():
        if isinstance(entry, str):
            found[path] = entry
            continue
        assert entry.name == path, path
        parts = [entry.kind + ("?" if entry.truth else "")]
        if entry.value is not None:
            parts.append(ratio_text(entry.value))
        if entry.start is not None:
            parts.append("start " + ratio_text(entry.start) + ("*" if entry.fixed else ""))
        found[path] = " ".join(parts)
    return found


def equation_texts(pairs):
    return {name: f"{expression_text(left)} = {expression_text(right)}" for name, (left, right) in pairs.items()}


def when_texts(whens):
    return {
        name: (expression_text(condition), [f"{word} {name} {expression_text(part)}" for word, name, part in acts])
        for name, (condition, acts) in whens.items()
    }


def system_texts(system):
    """All that is in a system, in texts."""
    return {
        "variables": variable_texts(system.variables),
        "equations": equation_texts(system.equations),
        "initials": equation_texts(system.initials),
        "whens": when_texts(system.whens),
    }


def ratio(text):
    top, _, bottom = str(text).partition("/")
    return Ratio(int(top), int(bottom or 1))


def tree(text):
    return parse_tree(text)
