"""The flat system of a model (points 25 to 28)."""

from linkwork.assembly import Assembly
from linkwork.connections import set_equations, sets
from linkwork.errors import BadModel, BadSystem
from linkwork.lines import Writer
from linkwork.systems import System, Variable, check


class Flat:
    """A model with its modifications, and what each of its instances of models adds to the flat system.

    `lines` has the Lines, and `joints` the connection sets, by the paths of these instances.
    """

    def __init__(self, classes, name, changes):
        self.assembly = Assembly(classes, name, changes)
        writer = Writer(self.assembly)
        self.lines = {path: writer.lines_of(self.assembly.place_at(path)) for path in self._paths_of_models()}
        self.joints = {path: sets(self._ends(path), self.lines[path].links) for path in self.lines}

    def system(self):
        """Returns the flat system; raises BadModel if it is not good."""
        entries = self.assembly.entries
        variables = {path: entries[path] for path in sorted(list(entries)) if isinstance(entries[path], Variable)}
        added = [self.lines[path].equations for path in self.lines]
        added.extend([self._equations_of(ends) for path in self.joints for ends in self.joints[path]])
        added.extend([self._equations_of([(path, False)]) for path in self.connectors_of("")])
        initials = _together([self.lines[path].initials for path in self.lines])
        whens = _together([self.lines[path].whens for path in self.lines])
        system = System(variables, _together(added), initials, whens)
        try:
            check(system)
        except BadSystem:
            raise BadModel("the flat system is not good") from None
        return system

    def connectors_of(self, path):
        """Returns the paths of the connectors that are components of the instance itself."""
        parts = self.assembly.place_at(path).parts
        return [inner for component, inner in parts if self.assembly.is_of(component, "connector")]

    def fields_of(self, path):
        """Returns the fields of the connector with this path."""
        return self.assembly.fields(self.assembly.entries[path])

    def _paths_of_models(self):
        """Returns the paths of all instances of models, the model itself included."""
        entries = self.assembly.entries
        kinds = {path: entries[path] for path in entries if not isinstance(entries[path], Variable)}
        return ["", *[path for path in kinds if self.assembly.fulls[kinds[path]].kind == "model"]]

    def _ends(self, path):
        """Returns the ends of the instance of a model with this path."""
        parts = self.assembly.place_at(path).parts
        found = {}
        for component, inner in parts:
            if self.assembly.is_of(component, "model"):
                for connector in self.connectors_of(inner):
                    found[(connector, False)] = True
        for link in self.lines[path].links:
            for end in link:
                found[end] = True
        return list(found)

    def _equations_of(self, ends):
        return set_equations(ends, self.fields_of(ends[0][0]))


def flatten(classes, name, changes):
    """Returns the flat system of a model with modifications; raises BadModel."""
    return Flat(classes, name, changes).system()


def _together(dicts):
    """Returns one dict with all that is in several; raises BadModel if a name is in two of them."""
    found = {}
    for pairs in dicts:
        for name in pairs:
            if name in found:
                raise BadModel("two lines have the same name")
            found[name] = pairs[name]
    return found
