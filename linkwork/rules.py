"""The rules of sound libraries (point 16).

For each rule a function returns the names of the classes that violate it. It is asked only
if the rules before it hold; `fulls` has the full classes by their names.
"""

from linkwork.ways import reached

BUILT_IN = ("Real", "Integer", "Boolean")
MOST_MEMBERS = 60

# For each built-in class the prefixes that may stand before it.
PREFIXES = {
    "Real": ("", "parameter", "discrete", "input", "flow"),
    "Integer": ("parameter",),
    "Boolean": ("parameter", "discrete"),
}


def wrongly_named(classes):
    """Rule 1: names are different, and none is built in."""
    names = [item.name for item in classes]
    return [name for name in names if name in BUILT_IN or names.count(name) > 1]


def wrongly_extending(classes):
    """Rule 2: each class extends others of its kind, and never itself."""
    kinds = {item.name: item.kind for item in classes}
    bases = {item.name: [name for name, _ in item.extends] for item in classes}
    return [
        name for name in kinds
        if name in reached(bases, bases[name]) or not all([kinds.get(base) == kinds[name] for base in bases[name]])
    ]


def wrongly_composed(classes):
    """Rule 3: the components and the numbers of statements of full classes, and the names in modifications."""
    members = _members(classes)
    return [item.name for item in classes if not _is_well_composed(item, members)]


def wrongly_nested(fulls):
    """Rule 4: the classes of components exist, and none has itself as a component."""
    kinds = {name: [component.kind for component in fulls[name].components] for name in fulls}
    return [
        name for name in fulls
        if name in reached(kinds, kinds[name]) or not all([kind in fulls or kind in BUILT_IN for kind in kinds[name]])
    ]


def wrongly_declared(fulls):
    """Rule 5: prefixes, values and sizes, and what connectors are."""
    return [name for name in fulls if not _is_well_declared(fulls[name], fulls)]


def wrongly_changed(classes, fulls):
    """Rule 6: modifications are of what can be modified."""
    return [item.name for item in classes if not _is_well_changed(item, fulls)]


def in_order(classes):
    """Returns the classes, each behind those that it extends."""
    found = {}
    ready = _ready(classes, found)
    while ready:
        for item in ready:
            found[item.name] = item
        ready = _ready(classes, found)
    return list(found.values())


def has_doubles(changes):
    """Returns True if a list of the modifications has a name twice with a tree or twice with a list."""
    marks = [(name, isinstance(change, list)) for name, change in changes]
    inner = [change for _, change in changes if isinstance(change, list)]
    return len(set(marks)) < len(marks) or any([has_doubles(change) for change in inner])


def fit_class(changes, full, fulls):
    """Returns True if the modifications are as rule 6 says for those of a model, or of an `extends`."""
    components = {component.name: component for component in full.components}
    return all([name in components and _fits(change, components[name], fulls) for name, change in changes])


# What the rules ask for


def _ready(classes, found):
    """Returns the classes that were not found yet, while all that they extend were."""
    waiting = [item for item in classes if item.name not in found]
    return [item for item in waiting if all([name in found for name in _bases(item)])]


def _bases(item):
    return [name for name, _ in item.extends]


def _members(classes):
    """Returns for each full class the names of its components and the numbers of its statements.

    Names behind the bound are left out: there may be more of them than can be listed.
    """
    found = {}
    for item in in_order(classes):
        bases = [found[name] for name in _bases(item)]
        names = [name for base in bases for name in base[0]] + [component.name for component in item.components]
        equations = sum([base[1] for base in bases]) + len(item.equations)
        initials = sum([base[2] for base in bases]) + len(item.initials)
        found[item.name] = (names[:MOST_MEMBERS + 1], equations, initials)
    return found


def _is_well_composed(item, members):
    names, equations, initials = members[item.name]
    if max(len(names), equations, initials) > MOST_MEMBERS or len(set(names)) < len(names):
        return False
    lists = [changes for _, changes in item.extends] + [component.changes for component in item.components]
    if any([has_doubles(changes) for changes in lists]):
        return False
    return all([word in members[base][0] for base, changes in item.extends for word, _ in changes])


def _is_well_declared(full, fulls):
    if not all([_is_good_component(component, full, fulls) for component in full.components]):
        return False
    if full.kind == "model":
        return True
    flows = [component for component in full.components if component.prefix == "flow"]
    return not full.equations and not full.initials and 2 * len(flows) == len(full.components)


def _is_good_component(component, full, fulls):
    prefix = component.prefix
    if prefix not in PREFIXES.get(component.kind, ("",)):
        return False
    if component.value is not None and prefix != "parameter":
        return False
    if component.kind in fulls and fulls[component.kind].kind == "connector" and component.changes:
        return False
    if full.kind == "model":
        return prefix != "flow"
    return component.kind == "Real" and prefix in ("", "flow") and component.size is None


def _is_well_changed(item, fulls):
    if not all([fit_class(changes, fulls[base], fulls) for base, changes in item.extends]):
        return False
    changed = [component for component in item.components if component.changes]
    return all([_fit_component(component.changes, component, fulls) for component in changed])


def _fits(change, component, fulls):
    if isinstance(change, list):
        return _fit_component(change, component, fulls)
    return component.prefix == "parameter"


def _fit_component(changes, component, fulls):
    """Returns True if the modifications are as rule 6 says for those of the component."""
    if component.kind in fulls:
        full = fulls[component.kind]
        return full.kind == "model" and fit_class(changes, full, fulls)
    if component.prefix in ("parameter", "input"):
        return not changes
    return all([name in ("start", "fixed") and not isinstance(change, list) for name, change in changes])
