"""Linear equations, solved exactly (point 46)."""

from math import lcm

from linkwork.errors import ManySolutions, NoSolution, Singular
from linkwork.ratios import Ratio


class Elimination:
    """The basis rows of a matrix with constants, made into rows of integers that have more and more zeros.

    `basis` has the indices of the basis rows, `rows` what was made of each of them with its
    constant at the end, and `leads` the columns of their first numbers other than 0. These are
    the basis columns. `wrong` is the index of the first row with which there is no solution,
    or None.

    All constants, and so the solutions, are multiplied by `scale`. Constants may have far longer
    denominators than the other numbers, which they would make as long if each row had its own.
    """

    def __init__(self, rows, constants):
        self.columns = len(rows[0]) if rows else 0
        self.scale = _common_bottom(constants)
        self.basis = []
        self.rows = []
        self.leads = []
        self.wrong = None
        for at, (row, constant) in enumerate(list(zip(rows, constants))):
            reduced = self._reduced(self._integers(row, constant))
            used = [column for column in range(self.columns) if reduced[column] != 0]
            if used:
                self.basis.append(at)
                self.rows.append(reduced)
                self.leads.append(used[0])
            elif reduced[self.columns] != 0 and self.wrong is None:
                self.wrong = at

    def _integers(self, row, constant):
        """Returns the row with its constant, multiplied so that all are integers."""
        bottom = _common_bottom(row)
        found = [number.top * (bottom // number.bottom) for number in row]
        found.append(constant.top * (self.scale // constant.bottom) * bottom)
        return found

    def _reduced(self, row):
        """Returns a multiple of the row, less multiples of the basis rows, that is 0 at all leads.

        The divisions have no remainder: all numbers are determinants of parts of the matrix,
        and so they do not grow beyond those.
        """
        divisor = 1
        for basis_row, lead in zip(self.rows, self.leads):
            pivot = basis_row[lead]
            factor = row[lead]
            row = [(pivot * number - factor * other) // divisor for number, other in zip(row, basis_row)]
            divisor = pivot
        return row

    def free_columns(self):
        """Returns the list of the columns that are no basis columns."""
        return [column for column in range(self.columns) if column not in self.leads]

    def solution(self, free_numbers):
        """Returns the solution that has these integers, or 0, for the columns that are no basis columns.

        The last lead is the determinant of the basis, so all numbers times it are integers.
        """
        determinant = self.rows[-1][self.leads[-1]] if self.rows else 1
        found = [free_numbers.get(column, 0) * self.scale * determinant for column in range(self.columns)]
        for lead, at in sorted([(self.leads[at], at) for at in range(len(self.leads))], reverse=True):
            row = self.rows[at]
            total = row[self.columns] * determinant
            for column in range(lead + 1, self.columns):
                total -= row[column] * found[column]
            found[lead] = total // row[lead]
        return [Ratio(number, determinant * self.scale) for number in found]


def rank(rows):
    """Returns the number of the basis rows."""
    return len(_without_constants(rows).basis)


def basis_columns(rows):
    """Returns the list of the basis columns."""
    return sorted(_without_constants(rows).leads)


def solve_linear(rows, constants):
    """Returns the only solution; raises NoSolution, ManySolutions."""
    elimination = Elimination(rows, constants)
    if elimination.wrong is not None:
        raise NoSolution("the equations contradict each other")
    if elimination.free_columns():
        raise ManySolutions("the equations leave columns open")
    return elimination.solution({})


def only_solution(rows, constants):
    """Returns the only solution; raises Singular if there is none, or more than one."""
    elimination = Elimination(rows, constants)
    if elimination.wrong is not None or elimination.free_columns():
        raise Singular("there is not just one solution")
    return elimination.solution({})


def kernel(rows):
    """Returns for each column that is no basis column the solution for the constants 0 that has 1 for it."""
    elimination = _without_constants(rows)
    return [elimination.solution({column: 1}) for column in elimination.free_columns()]


def contradiction(rows, constants):
    """Returns factors for the rows with which they show that there is no solution, or None if there is one."""
    elimination = Elimination(rows, constants)
    wrong = elimination.wrong
    if wrong is None:
        return None
    basis = [at for at in elimination.basis if at < wrong]
    turned = [[rows[at][column] for at in basis] for column in range(elimination.columns)]
    factors = [Ratio(0) for _ in rows]
    factors[wrong] = Ratio(1)
    for at, factor in zip(basis, solve_linear(turned, [-number for number in rows[wrong]])):
        factors[at] = factor
    return factors


def _without_constants(rows):
    return Elimination(rows, [Ratio(0) for _ in rows])


def _common_bottom(numbers):
    """Returns the least number that makes all of these integers when they are multiplied by it."""
    found = 1
    for number in numbers:
        found = lcm(found, number.bottom)
    return found
