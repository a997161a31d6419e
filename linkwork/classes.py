"""The classes of a library, as they are written (point 12)."""


class Class:
    """A model or a connector."""

    def __init__(self, kind, name, extends, components, equations, initials):
        self.kind = kind
        self.name = name
        self.extends = extends
        self.components = components
        self.equations = equations
        self.initials = initials

    def __eq__(self, other):
        return (
            isinstance(other, Class)
            and self.kind == other.kind
            and self.name == other.name
            and self.extends == other.extends
            and self.components == other.components
            and self.equations == other.equations
            and self.initials == other.initials
        )


class Component:
    """A component of a class; `size` and `value` are None if there is none."""

    def __init__(self, prefix, kind, name, size, changes, value):
        self.prefix = prefix
        self.kind = kind
        self.name = name
        self.size = size
        self.changes = changes
        self.value = value

    def __eq__(self, other):
        return (
            isinstance(other, Component)
            and self.prefix == other.prefix
            and self.kind == other.kind
            and self.name == other.name
            and self.size == other.size
            and self.changes == other.changes
            and self.value == other.value
        )
