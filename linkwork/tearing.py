"""Tearing: linear equations solved one after the other, when some columns are known (point 47)."""

from itertools import combinations

from linkwork.errors import Singular
from linkwork.linear import only_solution
from linkwork.ratios import Ratio, quotient


def torn(rows, tears):
    """Returns the pairs of a row and the column that is known by it, and the list of the rest; raises Singular."""
    pairs = _pairs(_used_columns(rows), tears)
    if len(pairs) + len(tears) < len(rows):
        raise Singular("the tears are not enough")
    taken = {at: True for at, _ in pairs}
    return (pairs, [at for at in range(len(rows)) if at not in taken])


def best_tears(rows):
    """Returns the least list of the fewest columns that are tears enough."""
    used = _used_columns(rows)
    for many in range(len(rows)):
        for tears in combinations(range(len(rows)), many):
            if len(_pairs(used, tears)) + many == len(rows):
                return list(tears)
    return list(range(len(rows)))


def solve_torn(rows, constants, tears):
    """Returns the only solution; raises Singular."""
    pairs, rest = torn(rows, tears)
    formulas = _formulas_of_tears(tears)
    many = len(tears)
    for at, column in pairs:
        left = _remainder(rows[at], constants[at], formulas, many)
        formulas[column] = [quotient(number, rows[at][column]) for number in left]
    zeros = [_remainder(rows[at], constants[at], formulas, many) for at in rest]
    numbers = only_solution([zero[:many] for zero in zeros], [-zero[many] for zero in zeros])
    return [_value(formulas[column], numbers) for column in range(len(rows))]


def _used_columns(rows):
    """Returns for each row the list of the columns in which it has another coefficient than 0."""
    return [[column for column in range(len(row)) if row[column].top != 0] for row in rows]


def _pairs(used, tears):
    """Returns the pairs of a row and a column, in the order in which they are taken."""
    waiting = {at: [column for column in columns if column not in tears] for at, columns in enumerate(used)}
    found = []
    ready = [at for at in waiting if len(waiting[at]) == 1]
    while ready:
        column = waiting[ready[0]][0]
        found.append((ready[0], column))
        waiting = {at: [other for other in waiting[at] if other != column] for at in waiting}
        ready = [at for at in waiting if len(waiting[at]) == 1]
    return found


# A formula expresses something by the tears: a factor for each of them, and a constant at the end.


def _formulas_of_tears(tears):
    many = len(tears)
    return {tears[at]: [Ratio(int(at == place)) for place in range(many + 1)] for at in range(many)}


def _remainder(row, constant, formulas, many):
    """Returns a formula: the constant less the products of the row and the columns that have formulas."""
    left = [*[Ratio(0) for _ in range(many)], constant]
    for column, formula in formulas.items():
        factor = row[column]
        if factor.top != 0:
            left = [number - factor * other for number, other in zip(left, formula)]
    return left


def _value(formula, numbers):
    total = formula[-1]
    for factor, number in zip(formula, numbers):
        total = total + factor * number
    return total
