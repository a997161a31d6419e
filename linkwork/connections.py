"""Connection sets and their equations (points 23 and 24)."""

from linkwork.ratios import Ratio
from linkwork.sums import sum_of
from linkwork.ways import reached


def sets(ends, links):
    """Returns the list of the connection sets, each an ascending list, in the order of their first ends."""
    neighbours = {end: [] for end in ends}
    for first, second in links:
        neighbours[first].append(second)
        neighbours[second].append(first)
    found = []
    seen = {}
    for end in sorted(ends):
        if end not in seen:
            joined = sorted(list(reached(neighbours, [end])))
            for other in joined:
                seen[other] = True
            found.append(joined)
    return found


def set_equations(ends, fields):
    """Returns the equations of a connection set, pairs of expressions by their names."""
    found = {}
    for field, is_flow in fields:
        if not is_flow:
            for end in ends[1:]:
                found[_name(end, field)] = (_variable(ends[0], field), _variable(end, field))
        elif len(ends) > 1 or not ends[0][1]:
            terms = [("neg", _variable(end, field)) if end[1] else _variable(end, field) for end in ends]
            found[_name(ends[0], field)] = (sum_of(terms), ("num", Ratio(0)))
    return found


def _name(end, field):
    path, is_outside = end
    return f"c.{path}.{field}.o" if is_outside else f"c.{path}.{field}"


def _variable(end, field):
    return ("var", f"{end[0]}.{field}", 0)
