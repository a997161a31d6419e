"""Points 23 and 24: connection sets and their equations."""

import itertools
import random
import unittest

from building import containers, num, shape, system, states, var
from linkwork.connections import set_equations, sets
from linkwork.ratios import Ratio
from linkwork.systems import check, holds
from modelling import equation_texts

A, B, C, D = [(name, False) for name in "abcd"]
AO = ("a", True)
BO = ("b", True)


def smallest_sets(ends, links):
    """The definition: sets are put together as long as a link leads from one to another."""
    found = [{end} for end in ends]
    for link in links * len(ends):
        first, second = [next(part for part in found if end in part) for end in link]
        if first is not second:
            found.remove(second)
            first |= second
    return sorted([sorted(part) for part in found])


class SetTest(unittest.TestCase):
    def sets(self, ends, links, expected):
        before = shape([ends, links])
        found = sets(ends, links)
        self.assertEqual(shape([ends, links]), before)
        self.assertEqual(found, expected)
        self.assertIsInstance(found, list)
        self.assertTrue(all(isinstance(part, list) for part in found))
        self.assertFalse(containers(found) & (containers(ends) | containers(links)))
        return found

    def test_no_links(self):
        self.sets([], [], [])
        self.sets([B, AO, A], [], [[A], [AO], [B]])

    def test_links(self):
        self.sets([A, B, C], [(A, C)], [[A, C], [B]])
        self.sets([A, B, C, D], [(C, D), (B, D)], [[A], [B, C, D]])
        self.sets([D, C, B, A], [(D, A), (B, C)], [[A, D], [B, C]])
        self.sets([A, B, C, D], [(A, B), (C, D), (B, C)], [[A, B, C, D]])

    def test_links_that_change_nothing(self):
        self.sets([A, B, C], [(A, B), (A, B)], [[A, B], [C]])
        self.sets([A, B, C], [(A, B), (B, A)], [[A, B], [C]])
        self.sets([A, B], [(A, A)], [[A], [B]])
        self.sets([A, B, C], [(A, B), (B, C), (C, A)], [[A, B, C]])

    def test_outside_and_inside_ends_of_one_path(self):
        self.sets([AO, A, BO, B], [(AO, B)], [[A], [AO, B], [BO]])
        self.sets([AO, A], [(AO, A)], [[A, AO]])

    def test_the_order_of_ends(self):
        ends = [("a.b", False), ("a[10].p", False), ("a[2].p", True), ("a[2].p", False), ("a", True), ("B", False)]
        expected = [("B", False), ("a", True), ("a.b", False), ("a[10].p", False), ("a[2].p", False), ("a[2].p", True)]
        self.sets(ends, list(zip(ends, ends[1:])), [expected])

    def test_any_order(self):
        source = random.Random(23)
        ends = [A, AO, B, BO, C, D, ("e", True), ("f", False)]
        for _ in range(100):
            links = [(source.choice(ends), source.choice(ends)) for _ in range(source.randrange(9))]
            expected = smallest_sets(ends, links)
            turned = [source.choice([link, link[::-1]]) for link in links] + links[:2]
            for some in (links, turned, source.sample(turned, len(turned))):
                self.sets(source.sample(ends, len(ends)), some, expected)

    def test_many_ends(self):
        ends = [(f"p[{k}]", False) for k in range(1, 301)]
        self.sets(ends, list(zip(ends, ends[1:])), [sorted(ends)])


class EquationTest(unittest.TestCase):
    def equations(self, ends, fields, expected):
        before = shape([ends, fields])
        found = set_equations(ends, fields)
        self.assertEqual(shape([ends, fields]), before)
        self.assertEqual(equation_texts(found), expected)
        for order in itertools.permutations(fields):
            self.assertEqual(set_equations(ends, list(order)), found)
        return found

    def test_inside_ends(self):
        found = self.equations([("r.p", False), ("s[2].n", False), ("t.p", False)], [("v", False), ("i", True)], {
            "c.s[2].n.v": "@r.p.v = @s[2].n.v",
            "c.t.p.v": "@r.p.v = @t.p.v",
            "c.r.p.i": "add(add(@r.p.i,@s[2].n.i),@t.p.i) = 0",
        })
        self.assertEqual(found["c.t.p.v"], (var("r.p.v"), var("t.p.v")))
        self.assertEqual(found["c.r.p.i"][1], num(0))

    def test_outside_ends(self):
        self.equations([("p", True), ("r.p", False)], [("v", False), ("i", True)], {
            "c.r.p.v": "@p.v = @r.p.v", "c.p.i.o": "add(neg(@p.i),@r.p.i) = 0"})
        self.equations([("a.p", False), ("p", True)], [("v", False), ("i", True)], {
            "c.p.v.o": "@a.p.v = @p.v", "c.a.p.i": "add(@a.p.i,neg(@p.i)) = 0"})
        self.equations([("p", True), ("q", True)], [("i", True), ("v", False)], {
            "c.q.v.o": "@p.v = @q.v", "c.p.i.o": "add(neg(@p.i),neg(@q.i)) = 0"})

    def test_one_end_alone(self):
        self.equations([("r.p", False)], [("v", False), ("i", True), ("j", True)],
                       {"c.r.p.i": "@r.p.i = 0", "c.r.p.j": "@r.p.j = 0"})
        self.equations([("p", True)], [("v", False), ("i", True)], {})

    def test_fields(self):
        self.equations([A, B], [], {})
        self.equations([A, BO], [("v", False), ("w", False), ("i", True), ("j", True)], {
            "c.b.v.o": "@a.v = @b.v", "c.b.w.o": "@a.w = @b.w", "c.a.i": "add(@a.i,neg(@b.i)) = 0",
            "c.a.j": "add(@a.j,neg(@b.j)) = 0"})

    def test_both_ends_of_one_path(self):
        self.equations([("p", False), ("p", True)], [("v", False), ("i", True)], {
            "c.p.v.o": "@p.v = @p.v", "c.p.i": "add(@p.i,neg(@p.i)) = 0"})

    def test_25_ends(self):
        ends = sorted([(f"r[{k}].p", k % 2 == 0) for k in range(1, 26)])
        found = set_equations(ends, [("v", False), ("i", True)])
        self.assertEqual(len(found), 25)
        names = [f"r[{k}].p.{field}" for k in range(1, 26) for field in "vi"]
        check(system(states(*names), found))

    def test_results_share_nothing(self):
        first = set_equations([A, B], [("v", False)])
        first.clear()
        self.assertEqual(len(set_equations([A, B], [("v", False)])), 1)

    def test_when_the_equations_hold(self):
        fields = [("v", False), ("i", True)]
        for ends in ([A], [A, B], [A, AO], [A, BO], [AO, BO], [A, B, C], [A, AO, B], [AO, B, C]):
            made = system(equations=set_equations(ends, fields))
            paths = sorted({path for path, _ in ends})
            for numbers in itertools.product((-1, 0, 1), repeat=2 * len(paths)):
                volts = dict(zip(paths, numbers))
                flows = dict(zip(paths, numbers[len(paths):]))
                environment = {("var", f"{path}.{field}", 0): Ratio(table[path])
                               for path in paths for field, table in (("v", volts), ("i", flows))}
                total = sum([-flows[path] if is_outside else flows[path] for path, is_outside in ends])
                expected = len({volts[path] for path, _ in ends}) == 1 and total == 0
                self.assertEqual(holds(made, environment), expected)


if __name__ == "__main__":
    unittest.main()
