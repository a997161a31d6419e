"""Linear equations, solved exactly (point 46)."""

from math import lcm

from linkwork.errors import ManySolutions, NoSolution
from linkwork.ratios import Ratio, quotient


class Elimination:
    """The basis rows of a matrix with constants, made into rows of integers that have more and more zeros.

    `basis` has the indices of the basis rows, `rows` what was made of each of them with its
    constant at the end, and `leads` the columns of their first numbers other than 0. These are
    the basis columns. `wrong` is the index of the first row with which there is no solution,
    or None.
    """

    def __init__(self, rows, constants):
        self.columns = len(rows[0]) if rows else 0
        self.basis = []
        self.rows = []
        self.leads = []
        self.wrong = None
        for at, (row, constant) in enumerate(list(zip(rows, constants))):
            reduced = self._reduced(_integers([*row, constant]))
            used = [column for column in range(self.columns) if reduced[column] != 0]
            if used:
                self.basis.append(at)
                self.rows.append(reduced)
                self.leads.append(used[0])
            elif reduced[self.columns] != 0 and self.wrong is None:
                self.wrong = at

    def _reduced(self, row):
        """Returns a multiple of the row, less multiples of the basis rows, that is 0 at all leads.

        The divisions have no remainder: all numbers are determinants of parts of the matrix,
        and so they do not grow beyond those.
        """
        divisor = 1
        for basis_row, lead in zip(self.rows, self.leads):
            pivot = basis_row[lead]
            factor = row[lead]
            row = [(pivot * number - factor * other) // divisor for number, other in zip(row, basis_row)]
            divisor = pivot
        return row

    def free_columns(self):
        """Returns the list of the columns that are no basis columns."""
        return [column for column in range(self.columns) if column not in self.leads]

    def solution(self, free_numbers):
        """Returns the solution that has these numbers, or 0, for the columns that are no basis columns."""
        found = [free_numbers.get(column, Ratio(0)) for column in range(self.columns)]
        for lead, at in sorted([(self.leads[at], at) for at in range(len(self.leads))], reverse=True):
            row = self.rows[at]
            total = Ratio(row[self.columns])
            for column in range(lead + 1, self.columns):
                if row[column] != 0 and found[column].top != 0:
                    total = total - Ratio(row[column]) * found[column]
            found[lead] = quotient(total, Ratio(row[lead]))
        return found


def rank(rows):
    """Returns the number of the basis rows."""
    return len(_without_constants(rows).basis)


def solve_linear(rows, constants):
    """Returns the only solution; raises NoSolution, ManySolutions."""
    elimination = Elimination(rows, constants)
    if elimination.wrong is not None:
        raise NoSolution("the equations contradict each other")
    if elimination.free_columns():
        raise ManySolutions("the equations leave columns open")
    return elimination.solution({})


def kernel(rows):
    """Returns for each column that is no basis column the solution for the constants 0 that has 1 for it."""
    elimination = _without_constants(rows)
    return [elimination.solution({column: Ratio(1)}) for column in elimination.free_columns()]


def contradiction(rows, constants):
    """Returns factors for the rows with which they show that there is no solution, or None if there is one."""
    elimination = Elimination(rows, constants)
    wrong = elimination.wrong
    if wrong is None:
        return None
    basis = [at for at in elimination.basis if at < wrong]
    turned = [[rows[at][column] for at in basis] for column in range(elimination.columns)]
    factors = [Ratio(0) for _ in rows]
    factors[wrong] = Ratio(1)
    for at, factor in zip(basis, solve_linear(turned, [-number for number in rows[wrong]])):
        factors[at] = factor
    return factors


def _without_constants(rows):
    return Elimination(rows, [Ratio(0) for _ in rows])


def _integers(row):
    """Returns the row multiplied by the least number that makes it a row of integers."""
    scale = 1
    for number in row:
        scale = lcm(scale, number.bottom)
    return [number.top * (scale // number.bottom) for number in row]
