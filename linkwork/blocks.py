"""Blocks of equations, in the order in which they can be solved (point 45)."""

from linkwork.errors import Singular
from linkwork.matching import greatest
from linkwork.ways import reached


def blocks(graph):
    """Returns the list of the blocks in order, each a pair of its equations and their keys; raises Singular."""
    keys, joined = graph
    pairs = greatest(joined, {})
    if len(pairs) < len(joined) or len(pairs) < len(keys):
        raise Singular("not each equation has a key, or not each key an equation")
    owners = {pairs[name]: name for name in pairs}
    needs = {name: [owners[key] for key in joined[name]] for name in sorted(list(joined))}
    found = []
    for names in _ordered(_grouped(needs), needs):
        found.append((names, sorted([pairs[name] for name in names])))
    return found


def _grouped(needs):
    """Returns for each equation the ascending list of those of its block."""
    behind = {name: reached(needs, [name]) for name in needs}
    return {name: [other for other in needs if other in behind[name] and name in behind[other]] for name in needs}


def _ordered(groups, needs):
    """Returns the groups, each behind those that it needs, and before others if its first equation is less."""
    waiting = [groups[name] for name in groups if groups[name][0] == name]
    found = []
    done = {}
    while waiting:
        ready = [names for names in waiting if _needs_only(names, needs, done)]
        found.append(ready[0])
        for name in ready[0]:
            done[name] = True
        waiting = [names for names in waiting if names != ready[0]]
    return found


def _needs_only(names, needs, done):
    """Returns True if the equations need none but each other and those that are done."""
    return all([other in done or other in names for name in names for other in needs[name]])
