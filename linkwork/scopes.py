"""What the words and references of a tree mean (points 17 to 20, 25 and 26)."""

from linkwork.errors import BadModel
from linkwork.places import joined, kind_of_variable
from linkwork.rules import BUILT_IN
from linkwork.wholes import whole_value


class Scope:
    """The instance to which trees belong, and the integers of the loops around them.

    `is_value` is True for the trees of values, which name parameters only.
    """

    def __init__(self, assembly, place, numbers, is_value):
        self.assembly = assembly
        self.place = place
        self.numbers = numbers
        self.is_value = is_value

    def inside(self, word, number):
        """Returns the scope inside of a round of a loop, in which the word stands for the number."""
        return Scope(self.assembly, self.place, {**self.numbers, word: number}, self.is_value)

    def number(self, word):
        """Returns the integer of a word; raises BadModel."""
        if word in self.numbers:
            return self.numbers[word]
        component = self.place.components.get(word)
        if component is None or component.kind != "Integer" or component.size is not None:
            raise BadModel("a word has no integer")
        return self.assembly.known_at("value", joined(self.place.path, word)).top

    def is_number(self, tree):
        """Returns True if the reference is a word that stands for the integer of a loop."""
        return len(tree[1]) == 1 and tree[1][0][1] is None and tree[1][0][0] in self.numbers

    # References, as far as they can be told from the classes

    def steps(self, ref):
        """Returns the components on the way of a reference; raises BadModel if there are none."""
        found = []
        kind = self.place.full.name
        for word, index in ref[1]:
            component = self.assembly.component_of(kind, word)
            if index is not None and component.size is None:
                raise BadModel("what has no size has an index")
            found.append(component)
            kind = component.kind
        return found

    def names_many(self, ref):
        """Returns True if a part has no index but a size; raises BadModel if several have."""
        return self._bare(ref) is not None

    def variable_kind(self, ref):
        """Returns the kind of the Variables that the reference names; raises BadModel if there are none."""
        component = self.steps(ref)[-1]
        if component.kind not in BUILT_IN:
            raise BadModel("a reference names no built-in component")
        return kind_of_variable(component, self.place.path == "" and len(ref[1]) == 1)

    # References, with the values of sizes and indices

    def path_of(self, ref):
        """Returns the path that a scalar reference names; raises BadModel."""
        if self.names_many(ref):
            raise BadModel("something with elements stands where a scalar is needed")
        return self._path(ref[1], 0)

    def paths_of(self, ref):
        """Returns the paths of all elements of the reference; raises BadModel."""
        return self.chosen_paths(ref, list(range(1, self.many_of(ref) + 1)))

    def chosen_paths(self, ref, indices):
        """Returns the paths of the elements with these indices; raises BadModel."""
        for _, index in ref[1]:
            # An index has to be whole also where there is no element to which it belongs.
            if index is not None:
                whole_value(index, self)
        return [self._path(ref[1], number) for number in indices]

    def size_of(self, ref):
        """Returns the number of elements of a reference, all of which are right; raises BadModel."""
        return len(self.paths_of(ref))

    def many_of(self, ref):
        """Returns the number of elements of a reference that has elements; raises BadModel."""
        at = self._bare(ref)
        if at is None:
            raise BadModel("a scalar has no elements")
        around = self._path(ref[1][:at], 0)
        return self.assembly.known_at("size", joined(around, ref[1][at][0]))

    def _bare(self, ref):
        """Returns where the only part stands that has a size and no index, None if there is no such part."""
        steps = self.steps(ref)
        bare = [at for at in range(len(steps)) if steps[at].size is not None and ref[1][at][1] is None]
        if len(bare) > 1:
            raise BadModel("several parts of a reference have no index")
        return bare[0] if bare else None

    def _path(self, parts, number):
        """Returns the path of the parts of a reference, with the number in place of an index that is missing."""
        path = self.place.path
        for word, index in parts:
            component = self.assembly.place_at(path).components[word]
            path = joined(path, word)
            if component.size is not None:
                value = number if index is None else whole_value(index, self)
                if not 1 <= value <= self.assembly.known_at("size", path):
                    raise BadModel("an index is beyond the size")
                path = f"{path}[{value}]"
        return path
