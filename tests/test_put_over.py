"""Point 15: modifications put over others."""

import itertools
import unittest

from building import containers, num, shape
from linkwork.library import put_over
from modelling import changes

ONE = num(1)
TWO = num(2)
THREE = num(3)


class PutOverTest(unittest.TestCase):
    def over(self, outer, inner):
        before = shape([outer, inner])
        found = put_over(outer, inner)
        self.assertEqual(shape([outer, inner]), before)
        self.assertFalse(containers(found) & (containers(outer) | containers(inner)))
        self.assertIsInstance(found, list)
        return found

    def test_empty_sides(self):
        self.assertEqual(self.over([], []), [])
        self.assertEqual(self.over([("a", ONE)], []), [("a", ONE)])
        self.assertEqual(self.over([], [("a", ONE)]), [("a", ONE)])
        self.assertEqual(self.over([("a", [("b", ONE)])], []), [("a", [("b", ONE)])])
        self.assertEqual(self.over([], [("a", [("b", ONE)])]), [("a", [("b", ONE)])])

    def test_a_tree_takes_the_place_of_a_tree(self):
        self.assertEqual(self.over([("a", ONE)], [("a", TWO)]), [("a", ONE)])

    def test_names_of_one_side_stay(self):
        self.assertEqual(self.over([("a", ONE)], [("b", TWO)]), [("a", ONE), ("b", TWO)])
        self.assertEqual(self.over([("b", ONE)], [("a", TWO)]), [("a", TWO), ("b", ONE)])

    def test_a_list_is_put_over_a_list(self):
        outer = [("a", [("x", ONE), ("z", [("u", ONE)])])]
        inner = [("a", [("x", TWO), ("y", TWO), ("z", [("u", TWO), ("v", TWO)])])]
        self.assertEqual(self.over(outer, inner), [
            ("a", [("x", ONE), ("y", TWO), ("z", [("u", ONE), ("v", TWO)])])])

    def test_a_tree_and_a_list_of_one_name(self):
        both = [("a", ONE), ("a", [("x", ONE)])]
        self.assertEqual(self.over([("a", ONE)], [("a", [("x", ONE)])]), both)
        self.assertEqual(self.over([("a", [("x", ONE)])], [("a", ONE)]), both)
        self.assertEqual(self.over([], both[::-1]), both)
        self.assertEqual(self.over(both[::-1], [("a", TWO), ("a", [("x", TWO), ("w", TWO)])]),
                         [("a", ONE), ("a", [("w", TWO), ("x", ONE)])])

    def test_all_lists_are_in_order(self):
        mixed = changes("b = 1, B = 2, a(d = 1, c(f = 1, e = 2), C = 3), a10 = 1, a2 = 2, _a = 3".replace("_a", "Z"))
        ordered = changes("B = 2, Z = 3, a(C = 3, c(e = 2, f = 1), d = 1), a10 = 1, a2 = 2, b = 1")
        self.assertEqual(self.over(mixed, []), ordered)
        self.assertEqual(self.over([], mixed), ordered)
        self.assertEqual(self.over(mixed[:3], mixed[3:]), ordered)

    def test_a_beginning_comes_first(self):
        self.assertEqual(self.over([("ab", ONE), ("a", ONE)], [("abc", TWO), ("aB", TWO)]),
                         [("a", ONE), ("aB", TWO), ("ab", ONE), ("abc", TWO)])

    def test_the_result_shares_no_inner_list(self):
        inner = [("a", [("b", [("c", ONE)])])]
        first = self.over(inner, [])
        second = self.over(inner, [])
        self.assertEqual(first, second)
        self.assertFalse(containers(first) & containers(second))

    def test_three_joined_from_either_side(self):
        trees = [[], [("a", ONE)], [("b", TWO)], [("a", THREE), ("b", ONE)]]
        nested = [[("c", inner)] for inner in trees]
        both = [[("a", ONE), ("a", [("a", TWO)])], [("a", [("a", THREE), ("b", TWO)])]]
        for first, second, third in itertools.product(trees + nested + both, repeat=3):
            self.assertEqual(self.over(self.over(first, second), third), self.over(first, self.over(second, third)))


if __name__ == "__main__":
    unittest.main()
