"""Derivatives by time, offsets, reduced equations and unknowns (points 49 and 50)."""

from linkwork.errors import Singular, TooLarge
from linkwork.expressions import MOST_DEPTH, MOST_SIZE, depth, size
from linkwork.kinds import MOST_ORDER
from linkwork.matching import equations_left_out, greatest, greatest_orders
from linkwork.ratios import Ratio
from linkwork.systems import names_of

MOST_UNKNOWNS = 60


def derivative(system, expression):
    """Returns the derivative by time; raises TooLarge."""
    found = _derived(system.variables, expression)
    if size(found) > MOST_SIZE or depth(found) > MOST_DEPTH:
        raise TooLarge("the derivative is too large or too deep")
    return found


def offsets(system):
    """Returns the least offsets, those of the equations and those of the states; raises Singular."""
    states = names_of(system, "state")
    signatures = _signatures(system, states)
    if len(signatures) != len(states):
        raise Singular("there are not as many equations as states")
    times = {name: 0 for name in signatures}
    orders = _greatest(states, signatures)
    pairs = {}
    while True:
        tight = _tight(signatures, times, orders)
        pairs = greatest(tight, pairs)
        names = equations_left_out(tight, pairs)
        if not names:
            return (times, orders)
        near = {state: True for name in names for state in tight[name]}
        distance = _least_distance(names, near, signatures, times, orders)
        for name in names:
            times[name] += distance
        for state in near:
            orders[state] += distance


def reduced(system):
    """Returns the list of the reduced equations; raises Singular, TooLarge."""
    return reduced_equations(system, offsets(system)[0])


def unknowns(system):
    """Returns the list of the keys of the unknowns; raises Singular, TooLarge."""
    return unknown_keys(offsets(system)[1])


def reduced_equations(system, times):
    """Returns the list of the derivatives of the equations up to so many times; raises TooLarge."""
    found = []
    for name in sorted(list(times)):
        left, right = system.equations[name]
        found.append((name, 0, left, right))
        for time in range(times[name]):
            left, right = derivative(system, left), derivative(system, right)
            found.append((name, time + 1, left, right))
    return found


def unknown_keys(orders):
    """Returns the ascending list of the keys of the states up to these orders; raises TooLarge."""
    if max([orders[state] for state in orders], default=0) > MOST_ORDER:
        raise TooLarge("an order is too great")
    found = [("var", state, order) for state in sorted(list(orders)) for order in range(orders[state] + 1)]
    if len(found) > MOST_UNKNOWNS:
        raise TooLarge("there are too many unknowns")
    return found


def _derived(variables, expression):
    word = expression[0]
    if word == "var":
        return _derived_variable(variables[expression[1]], expression[2])
    if word == "time":
        return ("num", Ratio(1))
    if word in ("num", "pre"):
        return ("num", Ratio(0))
    if word == "if":
        return (word, expression[1], *[_derived(variables, part) for part in expression[2:]])
    parts = [_derived(variables, part) for part in expression[1:]]
    if word in ("neg", "add", "sub"):
        return (word, *parts)
    return _derived_product(word, expression[1], expression[2], parts)


def _derived_variable(variable, order):
    if variable.kind not in ("state", "input"):
        return ("num", Ratio(0))
    if order == MOST_ORDER:
        raise TooLarge("an order is too great")
    return ("var", variable.name, order + 1)


def _derived_product(word, first, second, derivatives):
    """Returns the derivative of a product, or of a quotient."""
    left = ("mul", derivatives[0], second)
    right = ("mul", first, derivatives[1])
    if word == "mul":
        return ("add", left, right)
    return ("div", ("sub", left, right), ("mul", second, second))


# Offsets
#
# All offsets begin as low as they can be. An equation fits a state tightly if they cannot be
# nearer to each other. As long as some equations fit fewer states tightly than they are, all
# their offsets, and those of these states, are too low.


def _signatures(system, states):
    """Returns for each equation its signatures with the states that occur in it."""
    known = {state: True for state in states}
    found = {}
    for name, sides in system.equations.items():
        orders = greatest_orders(sides)
        found[name] = {state: orders[state] for state in orders if state in known}
    return found


def _greatest(states, signatures):
    """Returns for each state its greatest signature, or 0."""
    found = {state: 0 for state in states}
    for orders in signatures.values():
        for state, order in orders.items():
            found[state] = max(found[state], order)
    return found


def _tight(signatures, times, orders):
    """Returns for each equation the list of the states that it fits tightly."""
    found = {}
    for name, own in signatures.items():
        found[name] = [state for state in own if orders[state] == times[name] + own[state]]
    return found


def _least_distance(names, near, signatures, times, orders):
    """Returns by how much some equations and the states near to them rise until one fits another state tightly."""
    distances = []
    for name in names:
        for state, order in signatures[name].items():
            if state not in near:
                distances.append(orders[state] - times[name] - order)
    if not distances:
        raise Singular("there is no transversal")
    return min(distances)
