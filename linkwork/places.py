"""Instances of models and connectors, and the trees in them (points 17 and 19)."""

from linkwork.classes import Component
from linkwork.library import modified

KINDS_OF_VARIABLES = {
    "": "state", "flow": "state", "input": "state", "discrete": "discrete", "parameter": "parameter",
}


class Place:
    """An instance of a model or connector: its path, its full class, and its components by their names.

    All modifications are put over these. The values and changes in them are pairs: the path of
    the instance to which the tree belongs, and the tree. `parts` has the pair of a component
    and a path for each instance that this one consists of.
    """

    def __init__(self, path, full, changes):
        self.path = path
        self.full = full
        self.components = {
            component.name: modified(_marked(component, path), changes) for component in full.components
        }
        self.parts = []


def marked(changes, path):
    """Returns the modifications with pairs in the place of trees that belong to the instance with this path."""
    return [
        (name, marked(change, path) if isinstance(change, list) else (path, change)) for name, change in changes
    ]


def joined(path, word):
    """Returns the path of a component of the instance with this path."""
    return word if path == "" else f"{path}.{word}"


def spot_of(path):
    """Returns the path of the instance around the one with this path, its name, and its index or 0."""
    around, _, last = path.rpartition(".")
    word, bracket, rest = last.partition("[")
    return (around, word, int(rest[:-1]) if bracket else 0)


def kind_of_variable(component, is_outermost):
    """Returns the kind of the Variables of a built-in component, which is perhaps one of the model itself."""
    if component.prefix == "input" and is_outermost:
        return "input"
    return KINDS_OF_VARIABLES[component.prefix]


def _marked(component, path):
    value = None if component.value is None else (path, component.value)
    changes = marked(component.changes, path)
    return Component(component.prefix, component.kind, component.name, component.size, changes, value)
