"""Steps of time (point 56)."""

from linkwork.beginning import input_values
from linkwork.expressions import evaluate, number_value
from linkwork.linear import only_solution
from linkwork.ratios import Ratio
from linkwork.states import Layout, free_of, matrix_of
from linkwork.systems import names_of


def step(system, environment, signals, time, method):
    """Returns the environment at a later time; raises as free_unknowns, Singular."""
    return step_of(Layout(system), environment, signals, time, method)


def step_of(layout, environment, signals, time, method):
    """Returns the environment at a later time; raises as free_unknowns, Singular."""
    free = free_of(layout, matrix_of(layout, environment)[0], ())
    length = time - number_value(("time",), environment)
    known = carried(layout.system, environment)
    known[("time",)] = time
    known.update(input_values(layout.system, signals, time))
    rows, constants = matrix_of(layout, known)
    rules = [_rule(key, environment, length, method) for key in free]
    return completed(layout, known, rows, constants, rules)


def carried(system, environment):
    """Returns what the environment after another one takes over from it, with "initial" False."""
    found = {("initial",): False}
    for name in names_of(system, "parameter"):
        found[("var", name, 0)] = evaluate(("var", name, 0), environment)
    for name in names_of(system, "discrete"):
        found[("var", name, 0)] = evaluate(("var", name, 0), environment)
    for name in names_of(system, "discrete") + names_of(system, "state"):
        found[("pre", name)] = evaluate(("var", name, 0), environment)
    return found


def completed(layout, known, rows, constants, rules):
    """Returns the environment with the unknowns that satisfy the rows and the rules; raises Singular.

    A rule is like a row, but has its factors by the keys.
    """
    zero = Ratio(0)
    more = [[factors.get(key, zero) for key in layout.unknowns] for factors, _ in rules]
    numbers = only_solution(rows + more, constants + [constant for _, constant in rules])
    found = {key: known[key] for key in known}
    for key, number in zip(layout.unknowns, numbers):
        found[key] = number
    return found


def _rule(key, environment, length, method):
    """Returns the rule for the new value of a free unknown."""
    old = number_value(key, environment)
    slope = ("var", key[1], key[2] + 1)
    if method == "backward":
        return ({key: Ratio(1), slope: -length}, old)
    half = length * Ratio(1, 2)
    return ({key: Ratio(1), slope: -half}, old + half * number_value(slope, environment))
