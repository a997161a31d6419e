"""Expressions that are linear in some keys, and their rows (point 48)."""

from linkwork.errors import NotLinear
from linkwork.expressions import number_value, truth_value
from linkwork.kinds import parts_of
from linkwork.ratios import Ratio, quotient


def is_linear(expression, keys):
    """Returns True if the expression is linear in the keys."""
    return _degree(expression, {key: True for key in keys}) < 2


def row(expression, keys, environment):
    """Returns the coefficients, one for each key, and the constant; raises NotLinear, then as evaluate."""
    if not is_linear(expression, keys):
        raise NotLinear("the expression is not linear in the keys")
    return linear_row(expression, keys, environment)


def linear_row(expression, keys, environment):
    """Returns the row of an expression that is linear in the keys; raises as evaluate."""
    places = {}
    for at, key in enumerate(keys):
        places.setdefault(key, at)
    factors, constant = _terms(expression, places, environment)
    zero = Ratio(0)
    coefficients = [zero for _ in keys]
    for key in factors:
        coefficients[places[key]] = factors[key]
    return (coefficients, constant)


def _degree(expression, keys):
    """Returns 0 if none of the keys occurs, 1 if the expression is linear in them, and 2 otherwise."""
    word = expression[0]
    if word == "var":
        return int(expression in keys)
    degrees = [_degree(part, keys) for part in parts_of(expression)]
    most = max(degrees, default=0)
    if most != 1 or word in ("neg", "add", "sub"):
        return most
    if word == "mul":
        return 2 if degrees == [1, 1] else 1
    if word == "div":
        return 2 if degrees[1] == 1 else 1
    if word == "if":
        return 2 if degrees[0] == 1 else 1
    return 2


# The terms of an expression are a dict of factors by the keys that occur, and a constant.


def _terms(expression, keys, environment):
    word = expression[0]
    if word == "var" and expression in keys:
        return ({expression: Ratio(1)}, Ratio(0))
    if word == "neg":
        return _negated(_terms(expression[1], keys, environment))
    if word in ("add", "sub", "mul", "div"):
        first = _terms(expression[1], keys, environment)
        return _joined(word, first, _terms(expression[2], keys, environment))
    if word == "if":
        chosen = 2 if truth_value(expression[1], environment) else 3
        return _terms(expression[chosen], keys, environment)
    return ({}, number_value(expression, environment))


def _joined(word, first, second):
    if word == "add":
        return _sum(first, second)
    if word == "sub":
        return _sum(first, _negated(second))
    if word == "div":
        return _scaled(first, quotient(Ratio(1), second[1]))
    if second[0]:
        return _scaled(second, first[1])
    return _scaled(first, second[1])


def _sum(first, second):
    factors = {key: first[0][key] for key in first[0]}
    for key, factor in second[0].items():
        factors[key] = factors.get(key, Ratio(0)) + factor
    return (factors, first[1] + second[1])


def _negated(terms):
    factors, constant = terms
    return ({key: -factors[key] for key in factors}, -constant)


def _scaled(terms, factor):
    factors, constant = terms
    return ({key: factors[key] * factor for key in factors}, constant * factor)
