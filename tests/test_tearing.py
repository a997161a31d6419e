"""Point 47: tearing, and points 45 to 47 together."""

import itertools
import random
import time
import unittest

from building import var
from linkwork.blocks import blocks
from linkwork.errors import Singular
from linkwork.linear import rank, solve_linear
from linkwork.ratios import Ratio
from linkwork.tearing import best_tears, solve_torn, torn
from solving import Unchanged, ratios, rows, rows_text


def plainly_torn(matrix, tears):
    """The pairs and the rest by the words of point 47."""
    known = set(tears)
    pairs = []
    while True:
        for row in range(len(matrix)):
            left = [column for column in range(len(matrix))
                    if matrix[row][column] != Ratio(0) and column not in known]
            if row not in [taken for taken, _ in pairs] and len(left) == 1:
                pairs.append((row, left[0]))
                known.add(left[0])
                break
        else:
            return (pairs, [row for row in range(len(matrix)) if row not in [taken for taken, _ in pairs]],
                    len(known) == len(matrix))


def all_tears(size):
    for many in range(size + 1):
        yield from map(list, itertools.combinations(range(size), many))


def random_rows(source, size, share):
    def number():
        return Ratio(source.randint(-4, 4), source.randint(1, 3)) if source.random() < share else Ratio(0)

    return [[number() for _ in range(size)] for _ in range(size)]


class TornTest(Unchanged, unittest.TestCase):
    def torn_as(self, text, tears, pairs, rest):
        self.assertEqual(self.unchanged(torn, rows(text), tears), (pairs, rest))

    def test_the_first_row_that_can_be_taken_is_taken(self):
        self.torn_as("1 1 0; 0 0 2; 0 3 1", [], [(1, 2), (2, 1), (0, 0)], [])
        self.torn_as("1 0 0; 0 1 0; 0 0 1", [], [(0, 0), (1, 1), (2, 2)], [])
        self.torn_as("0 1 1; 1 0 1; 0 0 1", [], [(2, 2), (0, 1), (1, 0)], [])
        # The row 0 can be taken only behind the row 1, and is then before the row 2.
        self.torn_as("1 1 0; 0 1 0; 0 0 5", [], [(1, 1), (0, 0), (2, 2)], [])

    def test_rows_that_know_all_are_the_rest(self):
        self.torn_as("1 1; 1 -1", [0], [(0, 1)], [1])
        self.torn_as("1 1; 1 -1", [1], [(0, 0)], [1])
        self.torn_as("1 1; 0 1", [1], [(0, 0)], [1])
        self.torn_as("2 0; 2 3", [0], [(1, 1)], [0])
        self.torn_as("1 1 1; 1 1 0; 0 1 1", [1], [(1, 0), (0, 2)], [2])

    def test_all_columns_as_tears(self):
        self.torn_as("1 1; 1 -1", [0, 1], [], [0, 1])
        self.torn_as("0 0; 0 0", [0, 1], [], [0, 1])
        self.torn_as("", [], [], [])

    def test_tears_that_are_not_enough(self):
        for text, tears in (("1 1; 1 -1", []), ("0", []), ("1 1 1; 1 1 1; 1 1 1", [1]), ("1 0; 1 0", [0]),
                            ("1 0; 1 0", []), ("0 0; 1 1", [])):
            self.refused(Singular, torn, rows(text), tears)
        self.torn_as("0 0; 1 1", [1], [(1, 0)], [0])
        self.torn_as("1 0; 1 0", [1], [(0, 0)], [1])

    def test_the_definition(self):
        source = random.Random(47)
        seen = {True: 0, False: 0}
        for _ in range(300):
            size = source.randint(1, 5)
            matrix = random_rows(source, size, source.choice((0.3, 0.5, 0.8)))
            for tears in all_tears(size):
                pairs, rest, enough = plainly_torn(matrix, tears)
                seen[enough] += 1
                if enough:
                    self.assertEqual(self.unchanged(torn, matrix, tears), (pairs, rest))
                    self.assertEqual(len(rest), len(tears))
                else:
                    self.refused(Singular, torn, matrix, tears)
        self.assertGreater(min(seen.values()), 500)


class BestTearsTest(Unchanged, unittest.TestCase):
    def test_against_all_lists(self):
        source = random.Random(470)
        for _ in range(300):
            size = source.randint(0, 6)
            matrix = random_rows(source, size, source.choice((0.2, 0.4, 0.7, 1)))
            enough = [tears for tears in all_tears(size) if plainly_torn(matrix, tears)[2]]
            fewest = min(map(len, enough))
            expected = min(tears for tears in enough if len(tears) == fewest)
            self.assertEqual(self.unchanged(best_tears, matrix), expected, rows_text(matrix))

    def test_examples(self):
        for text, expected in (("", []), ("0", [0]), ("3", []), ("1 1; 1 -1", [0]), ("1 1; 0 1", []),
                               ("0 0; 0 0", [0, 1]), ("1 0; 1 0", [1]), ("1 1 1; 1 1 1; 1 1 1", [0, 1]),
                               ("1 1 0; 1 1 0; 0 0 1", [0]), ("1 0 0; 0 1 1; 0 1 1", [1])):
            self.assertEqual(self.unchanged(best_tears, rows(text)), expected, text)

    def test_8_rows_in_good_time(self):
        started = time.time()
        full = rows("; ".join([" ".join(["1"] * 8)] * 8))
        self.assertEqual(best_tears(full), [0, 1, 2, 3, 4, 5, 6])
        self.assertEqual(best_tears(rows("; ".join([" ".join(["0"] * 8)] * 8))), list(range(8)))
        source = random.Random(8)
        for _ in range(20):
            best_tears(random_rows(source, 8, 0.6))
        self.assertLess(time.time() - started, 20)


class SolveTornTest(Unchanged, unittest.TestCase):
    def test_examples(self):
        for text, constants, tears, expected in (
                ("", "", [], ""), ("2", "3", [], "3/2"), ("2", "3", [0], "3/2"), ("1 1; 1 -1", "3 1", [0], "2 1"),
                ("1 1; 1 -1", "3 1", [1], "2 1"), ("1 1; 1 -1", "3 1", [0, 1], "2 1"),
                ("1 1 0; 0 0 2; 0 3 1", "1 2 3", [], "1/3 2/3 1"), ("1 1; 0 1", "5 2", [0], "3 2")):
            self.assertEqual(self.unchanged(solve_torn, rows(text), ratios(constants), tears), ratios(expected))

    def test_tears_that_are_not_enough(self):
        self.refused(Singular, solve_torn, rows("1 1; 1 -1"), ratios("3 1"), [])
        self.refused(Singular, solve_torn, rows("0"), ratios("0"), [])

    def test_no_solution_and_many(self):
        for text, constants, tears in (
                ("1 1; 1 1", "1 2", [0]), ("1 1; 1 1", "1 1", [0]), ("1 1; 1 1", "1 2", [0, 1]), ("0", "0", [0]),
                ("0", "1", [0]), ("1 0; 1 0", "1 1", [1]), ("1 0; 1 0", "1 2", [1]), ("0 0; 1 1", "0 1", [1])):
            self.refused(Singular, solve_torn, rows(text), ratios(constants), tears)

    def test_great_fractions(self):
        great = 10 ** 40 + 7
        matrix = [[Ratio(great, 3), Ratio(1, great)], [Ratio(5, great), Ratio(great * great, 11)]]
        numbers = [Ratio(great + 1, great - 2), Ratio(-13, great)]
        constants = [row[0] * numbers[0] + row[1] * numbers[1] for row in matrix]
        for tears in ([0], [1], [0, 1]):
            self.assertEqual(solve_torn(matrix, constants, tears), numbers)

    def test_points_45_46_and_47_together(self):
        source = random.Random(4567)
        seen = {"one": 0, "not one": 0}
        for _ in range(500):
            size = source.randint(1, 6)
            matrix = random_rows(source, size, source.choice((0.3, 0.5, 0.9)))
            constants = [Ratio(source.randint(-5, 5), source.randint(1, 4)) for _ in range(size)]
            tears = [best_tears(matrix), list(range(size))]
            if rank(matrix) < size:
                seen["not one"] += 1
                for columns in tears:
                    self.refused(Singular, solve_torn, matrix, constants, columns)
                continue
            seen["one"] += 1
            expected = solve_linear(matrix, constants)
            for columns in [*tears, source.choice([own for own in all_tears(size) if plainly_torn(matrix, own)[2]])]:
                self.assertEqual(self.unchanged(solve_torn, matrix, constants, columns), expected)
            self.assertEqual(self.solved_by_blocks(matrix, constants), expected)
        self.assertGreater(min(seen.values()), 100)

    def solved_by_blocks(self, matrix, constants):
        """The solution by `solve_linear`, block after block."""
        size = len(matrix)
        keys = [var(f"x{column}") for column in range(size)]
        used = {f"e{at}": [keys[k] for k in range(size) if matrix[at][k] != Ratio(0)] for at in range(size)}
        found = {}
        for names, own in blocks((keys, used)):
            places = [int(name[1:]) for name in names]
            columns = [keys.index(key) for key in own]
            left = []
            for at in places:
                total = constants[at]
                for column, number in found.items():
                    total = total - matrix[at][column] * number
                left.append(total)
            numbers = solve_linear([[matrix[at][column] for column in columns] for at in places], left)
            found.update(zip(columns, numbers))
        return [found[column] for column in range(size)]

    def test_results_share_nothing(self):
        matrix = rows("1 1; 1 -1")
        found = torn(matrix, [0])
        found[0].clear()
        found[1].clear()
        self.assertEqual(torn(matrix, [0]), ([(0, 1)], [1]))
        best_tears(matrix).append(7)
        self.assertEqual(best_tears(matrix), [0])


if __name__ == "__main__":
    unittest.main()
