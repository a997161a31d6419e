"""Small graphs, and all matchings of a graph, tried out."""

import itertools

from building import var


def made(rows, many=None):
    """The graph of a dict of lists of numbers; its keys are x0, x1, ... up to the greatest one, or as many as said."""
    numbers = [number for row in rows.values() for number in row]
    many = max(numbers, default=-1) + 1 if many is None else many
    return ([key(number) for number in range(many)], {name: [key(number) for number in rows[name]] for name in rows})


def key(number):
    return var(f"x{number:03d}", number % 3)


def all_graphs(equations, keys):
    """All graphs with so many equations and keys."""
    choices = [[number for number in range(keys) if mask >> number & 1] for mask in range(2 ** keys)]
    for rows in itertools.product(choices, repeat=equations):
        yield made({f"e{at}": row for at, row in enumerate(rows)}, keys)


def random_graph(source, equations, keys, share):
    rows = {}
    for name in source.sample([f"e{at}" for at in range(equations)], equations):
        rows[name] = [number for number in range(keys) if source.random() < share]
    return made(rows, keys)


def matchings(graph):
    """All matchings of a graph, as dicts."""
    _, joined = graph
    found = [{}]
    for name in sorted(joined):
        more = []
        for pairs in found:
            more.extend({**pairs, name: key} for key in joined[name] if key not in pairs.values())
        found = found + more
    return found


def greatest_matchings(graph):
    found = matchings(graph)
    most = max(map(len, found))
    return [pairs for pairs in found if len(pairs) == most]


def is_less(first, second, names):
    """Point 42: the first equation at which they differ tells."""
    for name in sorted(names):
        if first.get(name) != second.get(name):
            return name in first and (name not in second or first[name] < second[name])
    return False
