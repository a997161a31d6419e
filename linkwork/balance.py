"""Balance (points 29 and 30)."""

from linkwork.errors import BadModel
from linkwork.flat import Flat
from linkwork.rules import BUILT_IN


def counts(system):
    """Returns the numbers of the states, equations, discrete variables and assignments of a system."""
    kinds = [variable.kind for variable in system.variables.values()]
    return (kinds.count("state"), len(system.equations), kinds.count("discrete"), _assignments(system.whens))


def is_balanced(system):
    """Returns True if there are as many states as equations, and discrete variables as assignments."""
    return _is_even(counts(system))


def own_counts(classes, name, path):
    """Returns the counts of an instance of a model by itself; raises BadModel."""
    flat = _checked(classes, name)
    if path not in flat.lines:
        raise BadModel("there is no such instance of a model")
    return _own_counts(flat, path)


def unbalanced(classes, name):
    """Returns the paths of the instances that are not balanced by themselves; raises BadModel."""
    flat = _checked(classes, name)
    return [path for path in sorted(list(flat.lines)) if not _is_even(_own_counts(flat, path))]


def _checked(classes, name):
    flat = Flat(classes, name, [])
    flat.system()
    return flat


def _own_counts(flat, path):
    entries = flat.assembly.entries
    built_in = [inner for component, inner in flat.assembly.place_at(path).parts if component.kind in BUILT_IN]
    kinds = [entries[inner].kind for inner in built_in]
    connectors = flat.connectors_of(path)
    joined = [end for ends in flat.joints[path] for end in ends if len(ends) > 1]
    states = kinds.count("state") + sum([_half(flat, inner) for inner in connectors])
    equations = len(flat.lines[path].equations)
    equations += sum([_half(flat, inner) for inner in connectors if (inner, True) in joined])
    return (states, equations, kinds.count("discrete"), _assignments(flat.lines[path].whens))


def _half(flat, path):
    return len(flat.fields_of(path)) // 2


def _assignments(whens):
    return len([act for _, acts in whens.values() for act in acts if act[0] == "assign"])


def _is_even(numbers):
    return numbers[0] == numbers[1] and numbers[2] == numbers[3]
