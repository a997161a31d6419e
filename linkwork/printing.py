"""Texts of trees and of sources, with as few parentheses as the grammar asks for."""

from linkwork.decimals import decimal_text

# How strongly an expression holds together: one that is weaker than its place
# asks for stands in parentheses.
ANY = 0
LEFT = 1
STRENGTHS = {
    "if": 0, "or": 1, "and": 2, "not": 3, "same": 4, "less": 4, "atmost": 4,
    "neg": 5, "add": 5, "sub": 5, "mul": 6, "div": 6,
}
STRONGEST = 7

# For an operator its sign, and the strengths that its sides need.
OPERATORS = {
    "or": ("or", 1, 2),
    "and": ("and", 2, 3),
    "same": ("==", 5, 5),
    "less": ("<", 5, 5),
    "atmost": ("<=", 5, 5),
    "add": ("+", 5, 6),
    "sub": ("-", 5, 6),
    "mul": ("*", 6, 7),
    "div": ("/", 6, 7),
}
SIGNS = {"not": ("not ", 3), "neg": ("-", 6)}


def tree_text(tree):
    """Returns a text that `parse_tree` reads back as the tree."""
    return _placed(tree, ANY)


def source_text(classes):
    """Returns a text that `parse_source` reads back as the classes."""
    return "".join([_class_text(item) for item in classes])


# Trees


def _placed(tree, needed):
    """Returns the text of a tree where this strength is needed."""
    text = _text(tree)
    return f"({text})" if STRENGTHS.get(tree[0], STRONGEST) < needed else text


def _text(tree):
    word = tree[0]
    if word in OPERATORS:
        sign, left, right = OPERATORS[word]
        return f"{_placed(tree[1], left)} {sign} {_placed(tree[2], right)}"
    if word in SIGNS:
        sign, needed = SIGNS[word]
        return sign + _placed(tree[1], needed)
    if word == "if":
        condition, first, second = [tree_text(part) for part in tree[1:]]
        return f"if {condition} then {first} else {second}"
    if word == "ref":
        return ".".join([_part_text(name, index) for name, index in tree[1]])
    if word == "list":
        return "{" + _listed(tree[1]) + "}"
    return _leaf_text(tree)


def _leaf_text(tree):
    word = tree[0]
    if word == "num":
        return decimal_text(tree[1])
    if word == "truth":
        return "true" if tree[1] else "false"
    if word == "time":
        return "time"
    return f"{word}({_listed(tree[1:])})"


def _listed(trees):
    return ", ".join([tree_text(tree) for tree in trees])


def _part_text(name, index):
    return name if index is None else f"{name}[{tree_text(index)}]"


# Classes


def _class_text(item):
    rows = [f"{item.kind} {item.name}"]
    rows.extend([f"  extends {name}{_changes_text(changes)};" for name, changes in item.extends])
    rows.extend([f"  {_component_text(component)};" for component in item.components])
    if item.equations:
        rows.append("equation")
        rows.extend(_statement_rows(item.equations, "  "))
    if item.initials:
        rows.append("initial equation")
        rows.extend(_statement_rows(item.initials, "  "))
    rows.append(f"end {item.name};")
    return "".join([row + "\n" for row in rows])


def _component_text(component):
    text = f"{component.kind} {_part_text(component.name, component.size)}{_changes_text(component.changes)}"
    if component.prefix != "":
        text = f"{component.prefix} {text}"
    if component.value is not None:
        text = f"{text} = {tree_text(component.value)}"
    return text


def _changes_text(changes):
    if not changes:
        return ""
    inner = ", ".join([_change_text(name, change) for name, change in changes])
    return f"({inner})"


def _change_text(name, change):
    if isinstance(change, list):
        return name + _changes_text(change)
    return f"{name} = {tree_text(change)}"


# Statements


def _statement_rows(statements, indent):
    return [indent + row for statement in statements for row in _rows(statement)]


def _rows(statement):
    """Returns the rows of a statement or an act."""
    word = statement[0]
    if word == "equal":
        return [f"{_placed(statement[1], LEFT)} = {tree_text(statement[2])};"]
    if word == "assign":
        return [f"{tree_text(statement[1])} = {tree_text(statement[2])};"]
    if word in ("connect", "reset"):
        return [f"{word}({_listed(statement[1:])});"]
    if word == "for":
        _, name, first, last, inner = statement
        head = f"for {name} in {tree_text(first)} : {tree_text(last)} loop"
        return [head, *_statement_rows(inner, "  "), "end for;"]
    rows = [f"{word} {tree_text(statement[1])} then", *_statement_rows(statement[2], "  ")]
    if word == "if" and statement[3]:
        rows = [*rows, "else", *_statement_rows(statement[3], "  ")]
    return [*rows, f"end {word};"]
