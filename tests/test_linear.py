"""Point 46: ranks, solutions, kernels and contradictions."""

import random
import time
import unittest
from fractions import Fraction

from building import containers, shape
from linkwork.errors import ManySolutions, NoSolution
from linkwork.linear import contradiction, kernel, rank, solve_linear
from linkwork.ratios import Ratio
from modelling import ratio


def ratios(rows):
    return [[ratio(number) for number in row] for row in rows]


def fractions(rows):
    return [[Fraction(number.top, number.bottom) for number in row] for row in rows]


def plain_rank(rows):
    """The rank of rows of Fractions, by plain elimination."""
    rows = [list(row) for row in rows]
    found = 0
    for column in range(len(rows[0]) if rows else 0):
        pivot = next((row for row in rows[found:] if row[column] != 0), None)
        if pivot is None:
            continue
        rows.remove(pivot)
        rows.insert(found, pivot)
        for k in range(found + 1, len(rows)):
            factor = rows[k][column] / pivot[column]
            rows[k] = [number - factor * other for number, other in zip(rows[k], pivot)]
        found += 1
    return found


def basis_of(rows):
    """The indices of the basis rows, by the definition."""
    found = []
    for k, row in enumerate(rows):
        if plain_rank([rows[at] for at in found] + [row]) > len(found):
            found.append(k)
    return found


def product(rows, numbers):
    return [sum([number * other for number, other in zip(row, numbers)], Fraction(0)) for row in rows]


def some_matrix(source, height, width):
    """A matrix of small fractions, in which some rows and columns depend on others."""
    rows = []
    for _ in range(height):
        if rows and source.random() < 0.4:
            first, second = source.choice(rows), source.choice(rows)
            factor = Fraction(source.randint(-2, 2), source.randint(1, 2))
            rows.append([number + factor * other for number, other in zip(first, second)])
        else:
            rows.append([source.choice((0, 0, 1, -1, Fraction(source.randint(-5, 5), source.randint(1, 4))))
                         for _ in range(width)])
    for column in range(1, width):
        if source.random() < 0.3:
            for row in rows:
                row[column] = row[column - 1] * 2
    return [[ratio(Fraction(number)) for number in row] for row in rows]


class LinearTest(unittest.TestCase):
    def unchanged(self, function, *arguments):
        before = shape(list(arguments))
        try:
            found = function(*arguments)
        finally:
            self.assertEqual(shape(list(arguments)), before)
        self.assertFalse(containers(found) & containers(list(arguments)))
        return found

    def solved(self, rows, constants, expected):
        rows, constants = ratios(rows), ratios([constants])[0]
        self.assertIsNone(contradiction(rows, constants))
        if isinstance(expected, list):
            self.assertEqual(self.unchanged(solve_linear, rows, constants), ratios([expected])[0])
        else:
            with self.assertRaises(expected):
                self.unchanged(solve_linear, rows, constants)

    def contradicted(self, rows, constants, expected):
        rows, constants = ratios(rows), ratios([constants])[0]
        self.assertEqual(self.unchanged(contradiction, rows, constants), ratios([expected])[0])
        with self.assertRaises(NoSolution):
            self.unchanged(solve_linear, rows, constants)

    def test_no_rows_and_no_columns(self):
        self.assertEqual((rank([]), kernel([]), solve_linear([], []), contradiction([], [])), (0, [], [], None))
        self.assertEqual((rank([[], []]), kernel([[], []])), (0, []))
        self.solved([[], []], [0, 0], [])
        self.contradicted([[], [], []], [0, "1/2", 3], [0, 1, 0])

    def test_solutions(self):
        self.solved([[2]], [3], ["3/2"])
        self.solved([[1, 1], [1, -1]], [3, 1], [2, 1])
        self.solved([[0, 2], [3, 0]], [1, 1], ["1/3", "1/2"])
        self.solved([["1/2", "1/3"], ["1/4", "1/5"]], [1, 1], [-8, 15])
        self.solved([[1, 1], [2, 2], [1, -1], [0, 0], [3, 1]], [3, 6, 1, 0, 7], [2, 1])
        self.solved([[0, 0, 1], [0, 1, 1], [1, 1, 1]], [1, 3, 6], [3, 2, 1])

    def test_many_solutions(self):
        self.solved([[0]], [0], ManySolutions)
        self.solved([[1, 2]], [3], ManySolutions)
        self.solved([[1, 2], [2, 4], ["1/2", 1]], [3, 6, "3/2"], ManySolutions)
        self.solved([[1, 0, 0], [0, 0, 1]], [1, 1], ManySolutions)

    def test_no_solution_goes_before_many(self):
        self.contradicted([[0]], [1], [1])
        self.contradicted([[1, 2], [2, 4]], [3, 7], [-2, 1])
        self.contradicted([[1, 1, 0], [0, 0, 0]], [1, "1/7"], [0, 1])

    def test_contradictions(self):
        self.contradicted([[1], [1]], [1, 2], [-1, 1])
        self.contradicted([[1, 0], [0, 1], [1, 1], [2, 3]], [1, 1, 2, 4], [-2, -3, 0, 1])
        self.contradicted([[1, 0], [0, 1], [1, 1], [2, 3], [1, 0]], [1, 1, 2, 4, 7], [-2, -3, 0, 1, 0])
        self.contradicted([[1, 0], [2, 0], [0, 1], [3, "1/2"]], [1, 2, 4, 6], [-3, 0, "-1/2", 1])
        self.contradicted([[1, 0], [0, 1], [2, 0]], [1, 1, 1], [-2, 0, 1])
        self.contradicted([[0, 0], [1, 1], [0, 0]], [0, 1, -2], [0, 0, 1])
        # The first row that contradicts counts, and rows behind it do not.
        self.contradicted([[1, 1], [1, 1], [1, 0], [0, 1]], [1, 2, 3, 4], [-1, 1, 0, 0])

    def test_ranks_and_kernels(self):
        for rows, expected_rank, expected in (
                ([[0, 0]], 0, [[1, 0], [0, 1]]), ([[1, 2]], 1, [[-2, 1]]),
                ([[0, 2, 3]], 1, [[1, 0, 0], [0, "-3/2", 1]]), ([[1, 2, 3], [2, 4, 6], [1, 0, 1]], 2, [[-1, -1, 1]]),
                ([[1, 0], [0, 1]], 2, []), ([[1, 1, 1, 1]], 1, [[-1, 1, 0, 0], [-1, 0, 1, 0], [-1, 0, 0, 1]]),
                ([[0, 0, 1], [0, 1, 1]], 2, [[1, 0, 0]]), ([[0, 1], [1, 0], [1, 1], [2, "1/3"]], 2, []),
                ([["1/2", "1/3", "1/6"]], 1, [["-2/3", 1, 0], ["-1/3", 0, 1]]), ([[0], [0], [5]], 1, [])):
            given = ratios(rows)
            self.assertEqual(self.unchanged(rank, given), expected_rank)
            self.assertEqual(self.unchanged(kernel, given), ratios(expected))

    def test_the_definitions(self):
        source = random.Random(46)
        seen = {"one": 0, "many": 0, "none": 0}
        for _ in range(400):
            height, width = source.randrange(1, 7), source.randrange(1, 6)
            rows = some_matrix(source, height, width)
            plain = fractions(rows)
            basis = basis_of(plain)
            columns = basis_of([list(column) for column in zip(*plain)])
            self.assertEqual(self.unchanged(rank, rows), len(basis))
            free = [column for column in range(width) if column not in columns]
            found = self.unchanged(kernel, rows)
            self.assertEqual(len(found), len(free))
            for column, numbers in zip(free, fractions(found)):
                self.assertEqual([numbers[other] for other in free], [int(other == column) for other in free])
                self.assertEqual(product(plain, numbers), [0] * height)
            self.check_constants(source, rows, plain, basis, seen)
        self.assertGreater(min(seen.values()), 40)

    def check_constants(self, source, rows, plain, basis, seen):
        height, width = len(plain), len(plain[0])
        constants = product(plain, [Fraction(source.randint(-3, 3), source.randint(1, 3)) for _ in range(width)])
        if source.random() < 0.5:
            constants[source.randrange(height)] += source.randint(0, 2)
        given = ratios([constants])[0]
        joined = [[*row, constant] for row, constant in zip(plain, constants)]
        wrong = [k for k in range(height) if plain_rank(joined[:k + 1]) > plain_rank(plain[:k + 1])]
        factors = self.unchanged(contradiction, rows, given)
        if wrong:
            seen["none"] += 1
            factors = fractions([factors])[0]
            self.assertEqual(factors[wrong[0]], 1)
            self.assertTrue(all(k == wrong[0] or k in basis and k < wrong[0] for k in range(height) if factors[k] != 0))
            self.assertEqual(product([list(column) for column in zip(*plain)], factors), [0] * width)
            self.assertNotEqual(product([constants], factors), [0])
            self.assertRaises(NoSolution, self.unchanged, solve_linear, rows, given)
            return
        self.assertIsNone(factors)
        if len(basis) < width:
            seen["many"] += 1
            self.assertRaises(ManySolutions, self.unchanged, solve_linear, rows, given)
            return
        seen["one"] += 1
        self.assertEqual(product(plain, fractions([self.unchanged(solve_linear, rows, given)])[0]), constants)

    def test_250_rows_and_60_columns(self):
        source = random.Random(250)
        started = time.time()
        for full in (60, 59, 30):
            rows = [[Ratio(source.randint(-9, 9), source.randint(1, 9)) for _ in range(60)] for _ in range(full)]
            while len(rows) < 250:
                first, second = source.sample(rows[:full], 2)
                factor = Ratio(source.randint(-3, 3), source.randint(1, 3))
                rows.append([number + factor * other for number, other in zip(first, second)])
            numbers = [Fraction(source.randint(-9, 9), source.randint(1, 9)) for _ in range(60)]
            constants = ratios([product(fractions(rows), numbers)])[0]
            self.assertEqual(rank(rows), full)
            self.assertEqual(len(kernel(rows)), 60 - full)
            self.assertIsNone(contradiction(rows, constants))
            if full == 60:
                self.assertEqual(fractions([solve_linear(rows, constants)])[0], numbers)
            else:
                self.assertRaises(ManySolutions, solve_linear, rows, constants)
            constants[240] = constants[240] + Ratio(1, 7)
            factors = contradiction(rows, constants)
            self.assertEqual(factors[240], Ratio(1))
            columns = fractions([list(column) for column in zip(*rows)])
            self.assertEqual(product(columns, fractions([factors])[0]), [0] * 60)
            self.assertRaises(NoSolution, solve_linear, rows, constants)
        self.assertLess(time.time() - started, 60)

    def test_results_share_nothing(self):
        rows = ratios([[1, 1, 1]])
        found = kernel(rows)
        self.assertFalse(containers(found) & containers(kernel(rows)))
        found[0].clear()
        self.assertEqual(kernel(rows), ratios([[-1, 1, 0], [-1, 0, 1]]))


if __name__ == "__main__":
    unittest.main()
