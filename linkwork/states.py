"""The rows of a system, and which of its unknowns are free (point 52)."""

from linkwork.derivatives import offsets, reduced_equations, unknown_keys
from linkwork.errors import NotLinear, Singular
from linkwork.linear import basis_columns
from linkwork.rows import is_linear, linear_row


class Layout:
    """A system, and what follows from it alone: its reduced equations, its unknowns and its candidates.

    The candidates are in the order in which they are gone through.
    """

    def __init__(self, system):
        """Raises Singular, TooLarge."""
        times, orders = offsets(system)
        self.system = system
        self.reduced = reduced_equations(system, times)
        self.unknowns = unknown_keys(orders)
        places = sorted([(order, state) for state in orders for order in range(orders[state])])
        self.candidates = [("var", state, order) for order, state in places]


def matrix(system, environment):
    """Returns the rows and the constants; raises Singular, TooLarge, NotLinear, then as evaluate."""
    return matrix_of(Layout(system), environment)


def free_unknowns(system, environment, preferred=()):
    """Returns the ascending list of the free unknowns; raises as matrix, Singular."""
    layout = Layout(system)
    rows, _ = matrix_of(layout, environment)
    return free_of(layout, rows, preferred)


def matrix_of(layout, environment):
    """Returns the rows and the constants; raises NotLinear, then as evaluate."""
    return rows_of([(left, right) for _, _, left, right in layout.reduced], layout.unknowns, environment)


def rows_of(equations, keys, environment):
    """Returns the rows and the constants of pairs of sides; raises NotLinear, then as evaluate."""
    differences = [("sub", left, right) for left, right in equations]
    if not all([is_linear(difference, keys) for difference in differences]):
        raise NotLinear("a side is not linear in the unknowns")
    found = [linear_row(difference, keys, environment) for difference in differences]
    return ([factors for factors, _ in found], [-constant for _, constant in found])


def free_of(layout, rows, preferred):
    """Returns the ascending list of the free unknowns with these rows; raises Singular.

    A column can be left out, with those taken before, just if the columns behind it in the
    order of the candidates, and those of no candidates, make it up. So the free ones are no
    basis columns when all columns stand in the other order.
    """
    candidates = _in_order(layout.candidates, preferred)
    others = [key for key in layout.unknowns if key not in candidates]
    turned = others + list(candidates)[::-1]
    places = {key: at for at, key in enumerate(layout.unknowns)}
    basis = basis_columns([[numbers[places[key]] for key in turned] for numbers in rows])
    taken = {turned[column]: True for column in basis}
    found = [key for key in candidates if key not in taken] if len(basis) == len(rows) else []
    if len(found) < len(layout.unknowns) - len(rows):
        raise Singular("there are not enough free unknowns")
    return sorted(found)


def _in_order(candidates, preferred):
    """Returns the candidates, first the preferred ones, as the keys of a dict."""
    known = {key: True for key in candidates}
    return {key: True for key in [*preferred, *candidates] if key in known}
