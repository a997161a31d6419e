"""Signals, and the environments at which runs begin (points 53 to 55)."""

from linkwork.errors import NoSolution
from linkwork.kinds import MOST_ORDER
from linkwork.linear import Elimination, contradiction
from linkwork.ratios import Ratio
from linkwork.states import Layout, rows_of
from linkwork.systems import names_of


def signal_value(coefficients, order, time):
    """Returns the value of this derivative of the polynomial at this time."""
    total = Ratio(0)
    for exponent in range(len(coefficients) - 1, order - 1, -1):
        total = total * time + coefficients[exponent] * Ratio(_falling(exponent, order))
    return total


def base(system, signals, time, initial):
    """Returns the environment of what is known at a time at which nothing has happened yet."""
    found = {("time",): time, ("initial",): initial}
    for name in names_of(system, "parameter"):
        found[("var", name, 0)] = system.variables[name].value
    found.update(input_values(system, signals, time))
    for name in names_of(system, "discrete"):
        found[("var", name, 0)] = start_of(system.variables[name])
    for name in names_of(system, "discrete") + names_of(system, "state"):
        found[("pre", name)] = start_of(system.variables[name])
    return found


def input_values(system, signals, time):
    """Returns the dict of the values of all inputs and their derivatives at a time."""
    found = {}
    for name in names_of(system, "input"):
        for order in range(MOST_ORDER + 1):
            found[("var", name, order)] = signal_value(signals[name], order, time)
    return found


def start_of(variable):
    """Returns the start of a state or discrete variable, or what stands for it."""
    if variable.start is not None:
        return variable.start
    return False if variable.truth else Ratio(0)


def begin(system, signals, time):
    """Returns the environment at which a run begins; raises as blame, then NoSolution."""
    return begin_of(Layout(system), signals, time)


def begin_of(layout, signals, time):
    """Returns the environment at which a run begins; raises NotLinear, then as evaluate, then NoSolution."""
    found = base(layout.system, signals, time, True)
    rows, constants = _initial_rows(layout, found)
    guesses, guessed = _guesses(layout)
    elimination = Elimination(rows + guesses, constants + guessed)
    wrong = elimination.wrong
    if wrong is not None and wrong < len(rows):
        raise NoSolution("what holds at the beginning contradicts itself")
    # The guesses that are taken are those that are basis rows, and the solution is that of the basis rows.
    for key, number in zip(layout.unknowns, elimination.solution({})):
        found[key] = number
    return found


def blame(system, signals, time):
    """Returns the causes of a contradiction, each with its factor; raises as matrix."""
    layout = Layout(system)
    rows, constants = _initial_rows(layout, base(system, signals, time, True))
    factors = contradiction(rows, constants)
    if factors is None:
        return []
    causes = [("equation", name, times) for name, times, _, _ in layout.reduced]
    causes += [("initial", name) for name in sorted(list(system.initials))]
    causes += [("start", name) for name in fixed_states(system)]
    return [(*cause, factor) for cause, factor in zip(causes, factors) if factor.top != 0]


def fixed_states(system):
    """Returns the ascending list of the states that begin with their start."""
    return [name for name in names_of(system, "state") if system.variables[name].fixed]


def _falling(exponent, order):
    """Returns the product of as many numbers as the order says, from the exponent downwards."""
    product = 1
    for step in range(order):
        product = product * (exponent - step)
    return product


def _initial_rows(layout, known):
    """Returns the initial rows and their constants; raises NotLinear, then as evaluate."""
    system = layout.system
    equations = [(left, right) for _, _, left, right in layout.reduced]
    equations += [system.initials[name] for name in sorted(list(system.initials))]
    equations += [_start_equation(system.variables[name]) for name in fixed_states(system)]
    return rows_of(equations, layout.unknowns, known)


def _guesses(layout):
    """Returns the rows of the guesses and their constants."""
    variables = layout.system.variables
    started = [name for name in names_of(layout.system, "state") if variables[name].start is not None]
    equations = [_start_equation(variables[name]) for name in started if not variables[name].fixed]
    equations += [(key, ("num", Ratio(0))) for key in layout.unknowns]
    return rows_of(equations, layout.unknowns, {})


def _start_equation(variable):
    return (("var", variable.name, 0), ("num", variable.start))
