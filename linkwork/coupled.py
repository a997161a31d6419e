"""Plants: systems that are coupled by wires (points 61 and 62)."""

from linkwork.beginning import begin, start_of
from linkwork.errors import BadSystem
from linkwork.expressions import number_value, renamed
from linkwork.steps import step
from linkwork.systems import System, Variable, check, names_of


def feed_order(plant):
    """Returns the names of the units in the order in which they take their steps."""
    units, wires = plant
    left = sorted(list(units))
    found = []
    while left:
        waiting = _fed_by_others(wires, left)
        ready = [unit for unit in left if unit not in waiting]
        found.append(ready[0] if ready else left[0])
        left = [unit for unit in left if unit != found[-1]]
    return found


def whole(plant):
    """Returns the system of all units and wires; raises BadSystem."""
    units, wires = plant
    variables = {}
    equations = {}
    initials = {}
    for unit in units:
        names = {name: _joined(unit, name) for name in units[unit].variables}
        variables.update(_copied_variables(units[unit], names))
        equations.update(_copied_equations(units[unit].equations, unit, names))
        initials.update(_copied_equations(units[unit].initials, unit, names))
    for (unit, name), (source, state) in wires.items():
        target = _joined(unit, name)
        if target + ".wire" in equations:
            raise BadSystem("an equation has the name of that of a wire")
        variables[target] = Variable(target, "state")
        equations[target + ".wire"] = (("var", target, 0), ("var", _joined(source, state), 0))
    found = System(variables, equations, initials, {})
    check(found)
    return found


def begin_all(plant, signals, time):
    """Returns the environments at which the units begin; raises as begin."""
    units = plant[0]
    latest = {unit: _starts(units[unit]) for unit in units}
    for unit in feed_order(plant):
        latest[unit] = begin(units[unit], _own_signals(plant, unit, signals, latest), time)
    return latest


def macro_step(plant, environments, signals, length, method):
    """Returns the environments of the units after one step of each; raises as step."""
    units = plant[0]
    latest = {unit: environments[unit] for unit in units}
    for unit in feed_order(plant):
        own = _own_signals(plant, unit, signals, latest)
        time = number_value(("time",), latest[unit]) + length
        latest[unit] = step(units[unit], latest[unit], own, time, method)
    return latest


def _fed_by_others(wires, names):
    """Returns the units into which wires lead from others with these names, as the keys of a dict."""
    return {unit: True for (unit, _), (source, _) in wires.items() if source in names and source != unit}


def _joined(unit, name):
    return f"{unit}.{name}"


def _copied_variables(system, names):
    """Returns the variables of a unit with their names in the whole."""
    found = {}
    for name, old in system.variables.items():
        found[names[name]] = Variable(names[name], old.kind, old.truth, old.value, old.start, old.fixed)
    return found


def _copied_equations(equations, unit, names):
    """Returns the equations of a unit, and the variables in them, with their names in the whole."""
    return {
        _joined(unit, name): (renamed(left, names), renamed(right, names))
        for name, (left, right) in equations.items()
    }


def _starts(system):
    """Returns the values that stand for those of the states before a system has begun."""
    return {("var", name, 0): start_of(system.variables[name]) for name in names_of(system, "state")}


def _own_signals(plant, unit, signals, environments):
    """Returns the signals of a unit, constants for its inputs with a wire."""
    units, wires = plant
    found = {}
    for name in names_of(units[unit], "input"):
        if (unit, name) in wires:
            source, state = wires[(unit, name)]
            found[name] = [number_value(("var", state, 0), environments[source])]
        else:
            found[name] = signals[_joined(unit, name)]
    return found
