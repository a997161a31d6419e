"""The faults of lists of instants, as runs (point 63)."""

from linkwork.beginning import base, fixed_states
from linkwork.errors import LinkworkError
from linkwork.events import fired, is_over, next_instant, triggered
from linkwork.expressions import number_value, place_of
from linkwork.ratios import Ratio
from linkwork.states import Layout


def faults(system, signals, plan, instants):
    """Returns the list of the faults; raises Singular, TooLarge."""
    layout = Layout(system)
    if not instants:
        return [(-1, "end")]
    given = base(system, signals, plan[0], True)
    keys = _complete_keys(layout, given)
    missing = [_missing_keys(keys, given, environment) for _, environment in instants]
    found = []
    for at, now in enumerate(instants):
        if missing[at]:
            found.extend([(at, "missing", key) for key in missing[at]])
        elif at == 0:
            found.extend(_faults_of_first(layout, keys, given, now))
        elif not missing[at - 1]:
            followed = _followed(layout, signals, plan, instants[:at])
            found.extend([(at, *fault) for fault in _differences(keys, followed, now)])
    if missing[-1] or len(instants) > 1 and missing[-2] or not _is_ended(system, plan, instants):
        found.append((len(instants) - 1, "end"))
    return found


def _complete_keys(layout, given):
    """Returns the ascending list of the keys of a complete environment."""
    named = [key for key in given if key not in (("time",), ("initial",))]
    return [("time",), ("initial",), *sorted(named + layout.unknowns, key=place_of)]


def _missing_keys(keys, given, environment):
    """Returns the list of the keys that an environment has not, or not with a value of the right kind."""
    return [key for key in keys if key not in environment or not _fits(environment[key], key, given)]


def _fits(value, key, given):
    """Returns True if the value is a truth just if it has to be one; unknowns, which are not given, are numbers."""
    if key in given and isinstance(given[key], bool):
        return isinstance(value, bool)
    return isinstance(value, Ratio)


def _faults_of_first(layout, keys, given, now):
    """Returns the faults of the first instant, which misses no key."""
    system = layout.system
    count, environment = now
    found = [(0, "given", key) for key in keys if key in given and environment[key] != given[key]]
    if count != 0:
        found.append((0, "count", count))
    for name, times, left, right in layout.reduced:
        if not _is_equal(left, right, environment):
            found.append((0, "equation", name, times))
    for name in sorted(list(system.initials)):
        left, right = system.initials[name]
        if not _is_equal(left, right, environment):
            found.append((0, "initial", name))
    for name in fixed_states(system):
        if environment[("var", name, 0)] != system.variables[name].start:
            found.append((0, "start", name))
    return found


def _is_equal(left, right, environment):
    """Returns True if both sides can be evaluated, and are equal."""
    try:
        return number_value(left, environment) == number_value(right, environment)
    except LinkworkError:
        return False


def _followed(layout, signals, plan, instants):
    """Returns the instant that must follow some others, or None if there is none, or if it cannot be made."""
    try:
        return _made_next(layout, signals, plan, instants)
    except LinkworkError:
        return None


def _made_next(layout, signals, plan, instants):
    """Returns the instant that must follow some others, or None if there is none; raises as run."""
    now = instants[-1]
    if len(instants) == 1:
        if not now[1][("initial",)]:
            return None
        return fired(layout, now, triggered(layout.system, None, now))
    names = triggered(layout.system, instants[-2], now)
    if is_over(plan, now, names):
        return None
    return next_instant(layout, signals, plan, now, names)


def _differences(keys, followed, now):
    """Returns the faults of an instant, without its index, where another one must follow, or None."""
    if followed is None:
        return [("error",)]
    found = [("next", key) for key in keys if now[1][key] != followed[1][key]]
    if now[0] != followed[0]:
        found.append(("count", now[0]))
    return found


def _is_ended(system, plan, instants):
    """Returns True if the run is over at the last instant, and this can be told."""
    if len(instants) == 1:
        return False
    try:
        names = triggered(system, instants[-2], instants[-1])
    except LinkworkError:
        return False
    return is_over(plan, instants[-1], names)
