"""Libraries, full classes and modifications (points 14 to 16)."""

from linkwork.classes import Class, Component
from linkwork.errors import BadLibrary, BadModel
from linkwork.rules import (
    in_order, wrongly_changed, wrongly_composed, wrongly_declared, wrongly_extending, wrongly_named, wrongly_nested,
)


def check_library(classes):
    """Raises BadLibrary with the least name of a class that violates the first rule that is violated."""
    _refuse(wrongly_named(classes))
    _refuse(wrongly_extending(classes))
    _refuse(wrongly_composed(classes))
    fulls = full_classes(classes)
    _refuse(wrongly_nested(fulls))
    _refuse(wrongly_declared(fulls))
    _refuse(wrongly_changed(classes, fulls))


def full_class(classes, name):
    """Returns the full class; raises BadModel if there is no such class."""
    fulls = full_classes(classes)
    if name not in fulls:
        raise BadModel("there is no such class")
    return fulls[name]


def full_classes(classes):
    """Returns the full classes of all classes, by their names."""
    found = {}
    for item in in_order(classes):
        bases = [found[name] for name, _ in item.extends]
        components = [
            modified(component, changes) for name, changes in item.extends for component in found[name].components
        ]
        components.extend([modified(component, []) for component in item.components])
        equations = [statement for full in [*bases, item] for statement in full.equations]
        initials = [statement for full in [*bases, item] for statement in full.initials]
        found[item.name] = Class(item.kind, item.name, [], components, _copied_all(equations), _copied_all(initials))
    return found


def modified(component, changes):
    """Returns the component with those of the modifications that have its name put over its own."""
    value = component.value
    inner = put_over([], component.changes)
    for name, change in changes:
        if name == component.name and isinstance(change, list):
            inner = put_over(change, inner)
        elif name == component.name and component.prefix == "parameter":
            value = change
    return Component(component.prefix, component.kind, component.name, component.size, inner, value)


def put_over(outer, inner):
    """Returns modifications: the outer ones put over the inner ones, in order."""
    trees = {}
    lists = {}
    for name, change in [*inner, *outer]:
        if isinstance(change, list):
            lists[name] = put_over(change, lists.get(name, []))
        else:
            trees[name] = change
    found = []
    for name in sorted(set(list(trees) + list(lists))):
        if name in trees:
            found.append((name, trees[name]))
        if name in lists:
            found.append((name, lists[name]))
    return found


def _refuse(names):
    if names:
        raise BadLibrary(min(names))


def _copied_all(statements):
    return [_copied(statement) for statement in statements]


def _copied(statement):
    """Returns the statement with lists of its own."""
    return tuple([_copied_all(part) if isinstance(part, list) else part for part in statement])
