"""Reading sources (points 10 to 13)."""

from linkwork.classes import Class, Component
from linkwork.cursor import Cursor
from linkwork.errors import BadText
from linkwork.grammar import MOST_AROUND, read_left, read_ref, read_tree

PREFIXES = ("parameter", "discrete", "input", "flow")


def parse_source(source):
    """Returns the list of the Classes of a source; raises BadText, TooLarge."""
    cursor = Cursor(source)
    classes = []
    while cursor.mark() in ("model", "connector"):
        classes.append(_read_class(cursor))
    cursor.finish()
    return classes


def parse_tree(source):
    """Returns the tree of an E alone; raises BadText, TooLarge."""
    cursor = Cursor(source)
    tree = read_tree(cursor)
    cursor.finish()
    return tree


# Classes


def _read_class(cursor):
    kind = cursor.take(cursor.mark())
    name = cursor.take("word")
    extends, components = _read_heads(cursor)
    equations = []
    initials = []
    if cursor.skip("equation"):
        equations = _read_statements(cursor, 0, False)
    if cursor.skip("initial"):
        cursor.take("equation")
        initials = _read_statements(cursor, 0, True)
    cursor.take("end")
    cursor.take_text(name)
    cursor.take(";")
    return Class(kind, name, extends, components, equations, initials)


def _read_heads(cursor):
    """Returns what the class extends, and its components."""
    extends = []
    components = []
    while cursor.mark() in ("extends", "word", *PREFIXES):
        if cursor.mark() == "extends":
            extends.append(_read_extends(cursor))
        else:
            components.append(_read_component(cursor))
    return (extends, components)


def _read_extends(cursor):
    cursor.take("extends")
    name = cursor.take("word")
    changes = _read_changes(cursor, 0)
    cursor.take(";")
    return (name, changes)


def _read_component(cursor):
    prefix = cursor.take(cursor.mark()) if cursor.mark() in PREFIXES else ""
    kind = cursor.take("word")
    name = cursor.take("word")
    many = None
    if cursor.skip("["):
        many = read_tree(cursor)
        cursor.take("]")
    changes = _read_changes(cursor, 0)
    value = read_tree(cursor) if cursor.skip("=") else None
    cursor.take(";")
    return Component(prefix, kind, name, many, changes, value)


def _read_changes(cursor, around):
    """Returns the modifications, none if there are none; they are inside of `around` others."""
    if cursor.mark() != "(":
        return []
    if around >= MOST_AROUND:
        raise BadText(cursor.here())
    cursor.take("(")
    changes = [_read_change(cursor, around)]
    while cursor.skip(","):
        changes.append(_read_change(cursor, around))
    cursor.take(")")
    return changes


def _read_change(cursor, around):
    name = cursor.take("word")
    if cursor.mark() == "(":
        return (name, _read_changes(cursor, around + 1))
    cursor.take("=")
    return (name, read_tree(cursor))


# Statements


def _read_statements(cursor, around, is_initial):
    """Returns a list of statements that is inside of `around` others."""
    if around >= MOST_AROUND:
        raise BadText(cursor.here())
    statements = []
    while not _is_list_over(cursor, around, is_initial):
        statements.append(_read_statement(cursor, around, is_initial))
    return statements


def _is_list_over(cursor, around, is_initial):
    if cursor.mark() == "initial":
        # "initial" may also begin an expression on the left of a "=".
        return around == 0 and not is_initial and cursor.mark_behind() == "equation"
    return cursor.mark() in ("end", "else")


def _read_statement(cursor, around, is_initial):
    mark = cursor.mark()
    if mark == "for":
        return _read_for(cursor, around, is_initial)
    if mark == "if":
        return _read_if(cursor, around, is_initial)
    if mark == "when" and not is_initial:
        return _read_when(cursor, around)
    if mark == "connect" and not is_initial:
        return _read_connect(cursor)
    return _read_equal(cursor)


def _read_equal(cursor):
    left = read_left(cursor)
    cursor.take("=")
    right = read_tree(cursor)
    cursor.take(";")
    return ("equal", left, right)


def _read_connect(cursor):
    cursor.take("connect")
    cursor.take("(")
    first = read_ref(cursor)
    cursor.take(",")
    second = read_ref(cursor)
    cursor.take(")")
    cursor.take(";")
    return ("connect", first, second)


def _read_for(cursor, around, is_initial):
    cursor.take("for")
    word = cursor.take("word")
    cursor.take("in")
    first = read_tree(cursor)
    cursor.take(":")
    last = read_tree(cursor)
    cursor.take("loop")
    statements = _read_statements(cursor, around + 1, is_initial)
    _take_end(cursor, "for")
    return ("for", word, first, last, statements)


def _read_if(cursor, around, is_initial):
    cursor.take("if")
    condition = read_tree(cursor)
    cursor.take("then")
    chosen = _read_statements(cursor, around + 1, is_initial)
    others = []
    if cursor.skip("else"):
        others = _read_statements(cursor, around + 1, is_initial)
    _take_end(cursor, "if")
    return ("if", condition, chosen, others)


def _read_when(cursor, around):
    cursor.take("when")
    condition = read_tree(cursor)
    cursor.take("then")
    acts = _read_acts(cursor, around + 1)
    _take_end(cursor, "when")
    return ("when", condition, acts)


def _take_end(cursor, word):
    cursor.take("end")
    cursor.take(word)
    cursor.take(";")


def _read_acts(cursor, around):
    """Returns a list of acts that is inside of `around` lists of statements."""
    if around >= MOST_AROUND:
        raise BadText(cursor.here())
    acts = []
    while cursor.mark() in ("word", "reset"):
        if cursor.mark() == "word":
            acts.append(_read_assign(cursor))
        else:
            acts.append(_read_reset(cursor))
    return acts


def _read_assign(cursor):
    ref = read_ref(cursor)
    cursor.take("=")
    value = read_tree(cursor)
    cursor.take(";")
    return ("assign", ref, value)


def _read_reset(cursor):
    cursor.take("reset")
    cursor.take("(")
    ref = read_ref(cursor)
    cursor.take(",")
    value = read_tree(cursor)
    cursor.take(")")
    cursor.take(";")
    return ("reset", ref, value)
