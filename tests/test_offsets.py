"""Point 50: offsets, reduced equations, unknowns."""

import itertools
import random
import time
import unittest

from building import num, var
from linkwork.derivatives import derivative, offsets, reduced, unknowns
from linkwork.errors import Singular, TooLarge
from linkwork.expressions import expression_text
from linkwork.systems import System, Variable
from solving import Unchanged, built


def with_signatures(signatures, states):
    """A system with as many states, whose equations have the signatures: a dict of orders by states for each."""
    equations = {}
    for at, orders in enumerate(signatures):
        total = num(at)
        for state, order in orders.items():
            total = ("add", total, var(f"x{state:02d}", order))
        equations[f"e{at:02d}"] = (total, num(0)) if at % 2 else (num(0), total)
    variables = {f"x{at:02d}": Variable(f"x{at:02d}", "state") for at in range(states)}
    return System(variables, equations, {}, {})


def plain_offsets(signatures, limit):
    """The least offsets, all c up to a limit tried out, or None without a transversal."""
    size = len(signatures)
    transversals = [choice for choice in itertools.permutations(range(size))
                    if all(choice[at] in signatures[at] for at in range(size))]
    if not transversals:
        return None
    found = []
    for c in itertools.product(range(limit), repeat=size):
        # A d that is equal to a sum for a pair of a transversal cannot be greater than the greatest sum.
        d = [max(c[at] + orders[state] for at, orders in enumerate(signatures) if state in orders)
             for state in range(size)]
        if any(all(d[choice[at]] == c[at] + signatures[at][choice[at]] for at in range(size))
               for choice in transversals):
            found.append((c, d))
    least = [min(c[at] for c, _ in found) for at in range(size)]
    return next((list(c), d) for c, d in found if list(c) == least)


class OffsetTest(Unchanged, unittest.TestCase):
    def check(self, system, times, orders):
        found = self.unchanged(offsets, system)
        self.assertEqual(found, (times, orders))

    def test_nothing(self):
        self.check(built(""), {}, {})
        self.check(built("parameter p = 1, input u, discrete d"), {}, {})

    def test_examples(self):
        self.check(built("state x", ["@x' = 1"]), {"e1": 0}, {"x": 1})
        self.check(built("state x", ["@x = 1"]), {"e1": 0}, {"x": 0})
        self.check(built("state x, state y", ["@x' = @y", "@y = 2"]), {"e1": 0, "e2": 0}, {"x": 1, "y": 0})
        self.check(built("state x, state y", ["@x' = @y", "@x = 2"]), {"e1": 0, "e2": 1}, {"x": 1, "y": 0})
        self.check(built("state x, state y", ["@y' = @y", "mul(@x,@x''') = time"]), {"e1": 0, "e2": 0},
                   {"x": 3, "y": 1})
        self.check(built("state x, input u", ["@x = @u''''"]), {"e1": 0}, {"x": 0})

    def test_differentiated_once_twice_four_times(self):
        chain = built("state a, state b, state c", ["@a' = @b", "@b' = @c", "@a = time"])
        self.check(chain, {"e1": 1, "e2": 0, "e3": 2}, {"a": 2, "b": 1, "c": 0})
        pendulum = built("state x, state y, state f", [
            "@x'' = mul(@f,@x)", "@y'' = sub(mul(@f,@y),10)", "add(mul(@x,@x),mul(@y,@y)) = 25"])
        self.check(pendulum, {"e1": 0, "e2": 0, "e3": 2}, {"x": 2, "y": 2, "f": 0})
        four = built("state x, state y", ["@x'''' = @y", "@x = mul(time,time)"])
        self.check(four, {"e1": 0, "e2": 4}, {"x": 4, "y": 0})

    def test_pre_and_other_kinds_do_not_count(self):
        self.check(built("state x, state y", ["add(@x,pre@y) = 1", "@y' = @x"]), {"e1": 0, "e2": 0}, {"x": 0, "y": 1})
        self.refused(Singular, offsets, built("state x", ["pre@x = 1"]))
        self.refused(Singular, offsets, built("state x, input u, parameter p = 1, discrete d", ["@u = add(@p,@d)"]))

    def test_conditions_count(self):
        self.check(built("state x, state y", ["if(less(@x'',1),@y,2) = 0", "@x = 1"]), {"e1": 0, "e2": 2},
                   {"x": 2, "y": 0})

    def test_singular(self):
        for variables, equations in (
                ("state x", []), ("", ["1 = 1"]), ("state x", ["@x = 1", "@x' = 2"]), ("state x, state y", ["@x = @y"]),
                ("state x, state y", ["@x = 1", "@x' = 2"]), ("state x", ["1 = 1"]),
                ("state x, state y, state z", ["@x = 1", "@x' = 2", "add(@y,@z) = @x"])):
            self.refused(Singular, offsets, built(variables, equations))
            self.refused(Singular, reduced, built(variables, equations))
            self.refused(Singular, unknowns, built(variables, equations))

    def test_the_definition(self):
        source = random.Random(50)
        seen = {"least": 0, "singular": 0, "above 0": 0}
        for _ in range(1200):
            size = source.choice((1, 2, 2, 3, 3))
            share = source.choice((0.4, 0.7, 1))
            signatures = [{state: source.randint(0, 4) for state in range(size) if source.random() < share}
                          for _ in range(size)]
            expected = plain_offsets(signatures, 9)
            system = with_signatures(signatures, size)
            if expected is None:
                seen["singular"] += 1
                self.refused(Singular, offsets, system)
                continue
            c, d = self.unchanged(offsets, system)
            self.assertEqual(([c[name] for name in sorted(c)], [d[name] for name in sorted(d)]), expected)
            seen["least"] += 1
            seen["above 0"] += max(expected[0]) > 0
        self.assertGreater(min(seen.values()), 100)

    def test_four_equations(self):
        source = random.Random(500)
        for _ in range(12):
            signatures = [{state: source.randint(0, 2) for state in range(4) if source.random() < 0.7 or state == at}
                          for at in range(4)]
            c, d = offsets(with_signatures(signatures, 4))
            self.assertEqual((list(c.values()), list(d.values())), plain_offsets(signatures, 7))

    def test_100_equations_in_good_time(self):
        started = time.time()
        chain = [{at: 0, **({at + 1: 4} if at < 99 else {})} for at in range(100)]
        c, d = offsets(with_signatures(chain, 100))
        self.assertEqual([c[f"e{at:02d}"] for at in range(100)], [4 * at for at in range(100)])
        self.assertEqual([d[f"x{at:02d}"] for at in range(100)], [4 * at for at in range(100)])
        turned = [{at: 0, **({at - 1: 4} if at > 0 else {})} for at in range(100)]
        self.assertEqual(offsets(with_signatures(turned, 100))[0]["e00"], 396)
        full = [{state: at * state % 5 for state in range(100)} for at in range(100)]
        c, d = offsets(with_signatures(full, 100))
        for at, orders in enumerate(full):
            self.assertTrue(all(d[f"x{state:02d}"] >= c[f"e{at:02d}"] + order for state, order in orders.items()))
        self.assertLess(time.time() - started, 30)

    def test_results_share_nothing(self):
        system = built("state x", ["@x' = 1"])
        c, d = offsets(system)
        c["e1"] = d["x"] = 7
        self.check(system, {"e1": 0}, {"x": 1})
        reduced(system).clear()
        unknowns(system).clear()
        self.assertEqual((len(reduced(system)), len(unknowns(system))), (1, 2))


class ReducedTest(Unchanged, unittest.TestCase):
    def texts(self, system):
        return [f"{name} {times} {expression_text(left)} = {expression_text(right)}"
                for name, times, left, right in self.unchanged(reduced, system)]

    def test_names_times_order_and_sides(self):
        system = built("state x, state y, state z", {"b": "@x' = @y", "a": "@y' = mul(2,@z)", "c": "@x = time"})
        self.assertEqual(self.texts(system), [
            "a 0 @y' = mul(2,@z)", "b 0 @x' = @y", "b 1 @x'' = @y'", "c 0 @x = time", "c 1 @x' = 1", "c 2 @x'' = 0"])
        self.assertEqual(self.unchanged(unknowns, system), [
            var("x"), var("x", 1), var("x", 2), var("y"), var("y", 1), var("z")])

    def test_nothing(self):
        self.assertEqual((self.texts(built("input u")), unknowns(built("input u"))), ([], []))

    def test_each_is_the_derivative_of_the_one_before(self):
        system = built("state x, state y, input u", [
            "@x''' = @y", "mul(@x,add(@u,2)) = if(less(time,1),mul(@u,@u),@u)"])
        found = self.unchanged(reduced, system)
        self.assertEqual([entry[:2] for entry in found], [("e1", 0), ("e2", 0), ("e2", 1), ("e2", 2), ("e2", 3)])
        self.assertEqual(found[1][2:], system.equations["e2"])
        for first, second in zip(found[1:], found[2:]):
            self.assertEqual(second[2:], tuple(derivative(system, side) for side in first[2:]))

    def test_too_large_equations(self):
        # The input would have the order 5.
        self.refused(TooLarge, reduced, built("state x, state y, input u", ["@x'' = @y", "@x = @u'''"]))
        self.assertEqual(len(reduced(built("state x, state y, input u", ["@x' = @y", "@x = @u'''"]))), 3)
        product = "mul(@x,mul(@x,mul(@x,mul(@x,mul(@x,mul(@x,mul(@x,mul(@x,mul(@x,mul(@x,@x))))))))))"
        self.refused(TooLarge, reduced, built("state x, state y", ["@x''' = @y", f"{product} = 1"]))
        self.refused(Singular, reduced, built("state x, state y, input u", ["@x'' = @x", "@x = @u''''"]))

    def test_a_d_of_4_and_of_5(self):
        four = built("state x, state y", ["@x''' = @y'", "@x'''' = 1"])
        self.assertEqual(offsets(four)[1], {"x": 4, "y": 1})
        self.assertEqual(len(self.unchanged(unknowns, four)), 7)
        five = built("state x, state y, state z", ["@x'''' = @y", "@y' = @z", "@x = time"])
        self.assertEqual(offsets(five)[1], {"x": 5, "y": 1, "z": 0})
        self.refused(TooLarge, unknowns, five)
        self.refused(TooLarge, reduced, five)

    def test_a_d_of_5_without_a_derivative_of_the_order_5(self):
        # The condition has the state with the order 4, and is not differentiated itself.
        system = built("state x, state y, state z", [
            "if(less(@x'''',0),@y,mul(2,@y)) = 1", "@y' = @z", "if(less(@x,1),1,2) = time"])
        self.assertEqual(offsets(system), ({"e1": 1, "e2": 0, "e3": 5}, {"x": 5, "y": 1, "z": 0}))
        self.assertEqual(len(self.unchanged(reduced, system)), 9)
        self.refused(TooLarge, unknowns, system)

    def test_60_and_61_unknowns(self):
        fourth = [{at: 4} for at in range(12)]
        self.assertEqual(len(self.unchanged(unknowns, with_signatures(fourth, 12))), 60)
        self.refused(TooLarge, unknowns, with_signatures([*fourth, {12: 0}], 13))
        flat = [{at: 0} for at in range(61)]
        self.assertEqual(len(unknowns(with_signatures(flat[:60], 60))), 60)
        self.refused(TooLarge, unknowns, with_signatures(flat, 61))
        self.assertEqual(len(reduced(with_signatures(flat, 61))), 61)
        self.refused(Singular, unknowns, with_signatures(flat, 62))


if __name__ == "__main__":
    unittest.main()
