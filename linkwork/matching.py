"""Which equation determines which unknown (points 41 to 44)."""

from linkwork.expressions import uses
from linkwork.systems import names_of
from linkwork.ways import reached


def graph(system, keys):
    """Returns the graph of the equations of a system and the keys."""
    ordered = sorted(keys)
    joined = {}
    for name in sorted(list(system.equations)):
        used = _uses_of_sides(system.equations[name])
        joined[name] = [key for key in ordered if key in used]
    return (ordered, joined)


def tops(system):
    """Returns for each state the key of the greatest order with which it occurs in the equations."""
    tops_of_states = {name: 0 for name in names_of(system, "state")}
    for sides in system.equations.values():
        for name, order in greatest_orders(sides).items():
            if name in tops_of_states:
                tops_of_states[name] = max(tops_of_states[name], order)
    return [("var", name, order) for name, order in tops_of_states.items()]


def match(graph):
    """Returns the least greatest matching, a dict of keys by the names of equations."""
    keys, joined = graph
    pairs = greatest(joined, {})
    found = {}
    while joined:
        name = min(list(joined))
        key = _least_key(name, keys, joined, pairs)
        if key is not None:
            found[name] = key
        joined = {
            other: [inner for inner in joined[other] if inner != key] for other in joined if other != name
        }
        kept = {other: pairs[other] for other in pairs if other != name and pairs[other] != key}
        pairs = greatest(joined, kept)
    return found


def parts(graph):
    """Returns the over-determined, the well-determined and the under-determined part of a graph.

    Each is a pair of ascending lists, of its equations and of its keys.
    """
    keys, joined = graph
    pairs = greatest(joined, {})
    spare = equations_left_out(joined, pairs)
    over_keys = _joined_keys(spare, joined)
    under_keys = _keys_reached(joined, pairs, _free_keys(keys, pairs))
    under = [name for name in joined if any([key in under_keys for key in joined[name]])]
    well = [name for name in joined if name not in spare and name not in under]
    well_keys = [key for key in keys if key not in over_keys and key not in under_keys]
    return (
        (sorted(list(spare)), sorted(list(over_keys))),
        (sorted(well), sorted(well_keys)),
        (sorted(under), sorted(list(under_keys))),
    )


def lack(graph):
    """Returns the equations, and the keys, of a lack of the graph, or None if all equations can be given keys."""
    joined = graph[1]
    pairs = greatest(joined, {})
    if len(pairs) == len(joined):
        return None
    left = {name: joined[name] for name in equations_left_out(joined, pairs)}
    for name in sorted(list(left), reverse=True):
        fewer = {other: left[other] for other in left if other != name}
        pairs = greatest(fewer, {other: pairs[other] for other in pairs if other in fewer})
        if len(pairs) < len(fewer):
            left = fewer
    return (sorted(list(left)), sorted(list(_joined_keys(left, joined))))


def greatest_orders(sides):
    """Returns for each name of a variable in the sides of an equation the greatest order with which it occurs."""
    found = {}
    for key in _uses_of_sides(sides):
        if key[0] == "var":
            found[key[1]] = max(found.get(key[1], 0), key[2])
    return found


def _uses_of_sides(sides):
    return uses(sides[0]) + uses(sides[1])


def greatest(joined, pairs):
    """Returns a greatest matching of the equations, grown from a matching that is given."""
    found = {name: pairs[name] for name in pairs}
    owners = {found[name]: name for name in found}
    useless = {}
    for name in sorted(list(joined)):
        if name not in found:
            free_key, sources = _search(name, joined, owners, useless)
            if free_key is None:
                # Keys that were tried in vain once lead to no free key later either.
                useless.update(sources)
            else:
                steps = _way(name, free_key, sources, found)
                for equation, key in steps:
                    found[equation] = key
                    owners[key] = equation
    return found


def _search(start, joined, owners, useless):
    """Returns a free key, or None, and for each key that was tried the equation that can take it."""
    sources = {}
    waiting = [start]
    while waiting:
        name = waiting.pop()
        for key in joined[name]:
            if key not in sources and key not in useless:
                sources[key] = name
                if key not in owners:
                    return (key, sources)
                waiting.append(owners[key])
    return (None, sources)


def _way(start, free_key, sources, pairs):
    """Returns the pairs that give the start a key, and others new ones, so that the free key is used."""
    found = [(sources[free_key], free_key)]
    while found[-1][0] != start:
        key = pairs[found[-1][0]]
        found.append((sources[key], key))
    return found


def _least_key(name, keys, joined, pairs):
    """Returns the least key that an equation has in any greatest matching, or None."""
    if name in equations_left_out(joined, pairs):
        return joined[name][0] if joined[name] else None
    targets = [*_free_keys(keys, pairs), pairs[name]]
    usable = _keys_reached(joined, pairs, targets)
    return [key for key in joined[name] if key in usable][0]


def _free_keys(keys, pairs):
    taken = {pairs[name]: True for name in pairs}
    return [key for key in keys if key not in taken]


def _joined_keys(names, joined):
    """Returns the keys with which the equations are joined, as the keys of a dict."""
    return {key: True for name in names for key in joined[name]}


def equations_left_out(joined, pairs):
    """Returns the equations that can be left out of a greatest matching, as the keys of a dict.

    One that has no key takes one that another equation has, and so on.
    """
    owners = {pairs[name]: name for name in pairs}
    ways = {name: [owners[key] for key in joined[name] if key in owners] for name in joined}
    return reached(ways, [name for name in joined if name not in pairs])


def _keys_reached(joined, pairs, targets):
    """Returns the keys that can be freed if one of the targets is free, as the keys of a dict.

    An equation that is joined with a free key takes that, and frees its own one, and so on.
    """
    ways = {}
    for name in pairs:
        for key in joined[name]:
            ways.setdefault(key, []).append(pairs[name])
    return reached(ways, targets)
