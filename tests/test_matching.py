"""Points 41 to 44: graphs, matchings, the three parts, lacks."""

import random
import time
import unittest

from building import TIME, containers, num, pre, shape, system, var
from graphs import all_graphs, greatest_matchings, is_less, key, made, matchings, random_graph
from linkwork.matching import graph, lack, match, parts, tops
from linkwork.systems import Variable
from modelling import ratio

VARIABLES = {
    "x": Variable("x", "state"), "y": Variable("y", "state"), "z": Variable("z", "state"), "u": Variable("u", "input"),
    "d": Variable("d", "discrete"), "p": Variable("p", "parameter", value=ratio(1)), "x2": Variable("x2", "state"),
}
EQUATIONS = {
    "b": (var("x", 2), ("add", var("y"), var("x", 1))),
    "a": (("mul", var("u"), var("p")), ("if", ("less", var("x2"), TIME), var("d"), pre("z"))),
    "c": (num(1), ("sub", var("x", 1), var("x", 1))),
    "d": (num(1), num(1)),
}
INITIALS = {"i": (var("z", 3), num(1))}
WHENS = {"w": (("less", var("z", 2), num(1)), [("assign", "d", var("z", 1)), ("reset", "z", num(1))])}


def small_graphs():
    source = random.Random(41)
    for equations in range(4):
        for keys in range(4):
            if equations * keys < 9:
                yield from all_graphs(equations, keys)
    for _ in range(400):
        yield random_graph(source, source.randrange(6), source.randrange(6), source.choice((0.2, 0.4, 0.6, 0.9)))


class GraphTest(unittest.TestCase):
    SYSTEM = system(VARIABLES, EQUATIONS, INITIALS, WHENS)

    def test_a_graph(self):
        keys = sorted([var("x"), var("x", 1), var("x", 2), var("y"), var("z"), var("z", 2), var("u"), var("d"),
                       var("p"), var("x2"), var("nobody"), var("y", 4)])
        before = shape([self.SYSTEM, keys])
        found = graph(self.SYSTEM, keys)
        self.assertEqual(shape([self.SYSTEM, keys]), before)
        self.assertIsInstance(found, tuple)
        self.assertEqual(found, (keys, {
            "a": [var("d"), var("p"), var("u"), var("x2")],
            "b": [var("x", 1), var("x", 2), var("y")],
            "c": [var("x", 1)],
            "d": [],
        }))
        self.assertFalse(containers(found) & containers(keys))
        self.assertFalse(containers(found) & containers(graph(self.SYSTEM, keys)))

    def test_no_keys_and_no_equations(self):
        self.assertEqual(graph(self.SYSTEM, []), ([], {"a": [], "b": [], "c": [], "d": []}))
        self.assertEqual(graph(system(VARIABLES), [var("x")]), ([var("x")], {}))
        self.assertEqual(graph(system(), []), ([], {}))

    def test_keys_are_in_ascending_order(self):
        keys = [var("x", order) for order in range(5)] + [var("x10"), var("x2")]
        made_system = system({"x": VARIABLES["x"], "x2": VARIABLES["x2"]},
                             {"e": (("add", var("x2"), ("add", var("x", 3), var("x", 0))), var("x", 1))})
        self.assertEqual(graph(made_system, keys)[1], {"e": [var("x"), var("x", 1), var("x", 3), var("x2")]})

    def test_tops(self):
        before = shape(self.SYSTEM)
        found = tops(self.SYSTEM)
        self.assertEqual(found, [var("x", 2), var("x2"), var("y"), var("z")])
        self.assertEqual(shape(self.SYSTEM), before)
        self.assertEqual(tops(system()), [])
        only_input = system({"x": VARIABLES["x"], "u": VARIABLES["u"]}, {"e": (var("u", 3), num(1))})
        self.assertEqual(tops(only_input), [var("x")])
        equations = {"e": (var("x", 1), num(1)), "f": (num(1), ("neg", var("x", 4))), "g": (var("x", 3), var("x"))}
        self.assertEqual(tops(system({"x": VARIABLES["x"]}, equations)), [var("x", 4)])

    def test_states_before_events_do_not_count(self):
        made_system = system({"x": VARIABLES["x"]}, {"e": (pre("x"), num(1))})
        self.assertEqual(graph(made_system, tops(made_system)), ([var("x")], {"e": []}))


class MatchTest(unittest.TestCase):
    def test_the_least_greatest_matching(self):
        for some in small_graphs():
            before = shape(some)
            found = match(some)
            self.assertEqual(shape(some), before)
            greatest = greatest_matchings(some)
            self.assertIn(found, greatest)
            self.assertFalse([other for other in greatest if is_less(other, found, some[1])], some)

    def test_lesser_keys_and_no_keys(self):
        self.assertEqual(match(made({"a": [0, 1], "b": [0, 1]})), {"a": key(0), "b": key(1)})
        self.assertEqual(match(made({"a": [0, 1], "b": [0]})), {"a": key(1), "b": key(0)})
        self.assertEqual(match(made({"b": [0, 1], "a": [0], "c": [0]})), {"a": key(0), "b": key(1)})
        self.assertEqual(match(made({"a": [0], "b": [0, 1], "c": [1]})), {"a": key(0), "b": key(1)})
        self.assertEqual(match(made({"a": [], "b": [2]}, 4)), {"b": key(2)})

    def test_empty_graphs(self):
        for some in (made({}), made({}, 3), made({"a": [], "b": []}), made({"a": []}, 2)):
            self.assertEqual(match(some), {})

    def test_the_order_of_the_names(self):
        rows = {"e10": [0], "e2": [0], "e1": [0]}
        self.assertEqual(match(made(rows)), {"e1": key(0)})
        self.assertEqual(match(made({"e2": [0], "e10": [0]})), {"e10": key(0)})

    def test_results_share_nothing(self):
        some = made({"a": [0]})
        match(some).clear()
        self.assertEqual(match(some), {"a": key(0)})


class PartTest(unittest.TestCase):
    def test_the_definition(self):
        for some in small_graphs():
            before = shape(some)
            over, well, under = parts(some)
            self.assertEqual(shape(some), before)
            keys, joined = some
            greatest = greatest_matchings(some)
            left_out = sorted({name for name in joined for pairs in greatest if name not in pairs})
            spare = sorted({key for key in keys for pairs in greatest if key not in pairs.values()})
            self.assertEqual(over, (left_out, sorted({key for name in left_out for key in joined[name]})))
            self.assertEqual(under, (sorted([name for name in joined if set(joined[name]) & set(spare)]), spare))
            self.assertEqual(well, (sorted(set(joined) - set(over[0]) - set(under[0])),
                                    sorted(set(keys) - set(over[1]) - set(under[1]))))
            self.assertFalse(set(over[0]) & set(under[0]) or set(over[1]) & set(under[1]))
            self.assertTrue(len(over[0]) > len(over[1]) or over == ([], []))
            self.assertTrue(len(under[0]) < len(under[1]) or under == ([], []))
            self.assertEqual(len(well[0]), len(well[1]))

    def test_three_parts(self):
        some = made({"a": [0], "b": [0], "c": [0, 1], "d": [1, 2], "e": [3, 4], "f": [2, 1]})
        over = (["a", "b", "c", "d", "f"], [key(0), key(1), key(2)])
        self.assertEqual(parts(some), (over, ([], []), (["e"], [key(3), key(4)])))
        some = made({"a": [0], "b": [0], "d": [0, 1, 2], "e": [3, 4], "f": [2, 1, 3]})
        under = (["d", "e", "f"], [key(1), key(2), key(3), key(4)])
        self.assertEqual(parts(some), ((["a", "b"], [key(0)]), ([], []), under))
        some = made({"a": [0], "b": [0], "d": [0, 1, 2], "e": [3, 4], "f": [2, 1]})
        self.assertEqual(parts(some), ((["a", "b"], [key(0)]), (["d", "f"], [key(1), key(2)]),
                                       (["e"], [key(3), key(4)])))

    def test_empty_graphs(self):
        self.assertEqual(parts(made({})), (([], []), ([], []), ([], [])))
        self.assertEqual(parts(made({"a": []}, 1)), ((["a"], []), ([], []), ([], [key(0)])))


class LackTest(unittest.TestCase):
    def can_be_given(self, joined, names):
        names = list(names)
        return max(map(len, matchings(([], {name: joined[name] for name in names})))) == len(names)

    def test_the_definition(self):
        for some in small_graphs():
            before = shape(some)
            found = lack(some)
            self.assertEqual(shape(some), before)
            joined = some[1]
            self.assertEqual(found is None, self.can_be_given(joined, joined))
            if found is None:
                continue
            left = parts(some)[0][0]
            for name in left[::-1]:
                fewer = [other for other in left if other != name]
                if not self.can_be_given(joined, fewer):
                    left = fewer
            self.assertEqual(found, (left, sorted({key for name in left for key in joined[name]})), some)
            self.assertEqual(len(found[1]), len(found[0]) - 1)
            for name in left:
                self.assertTrue(self.can_be_given(joined, [other for other in left if other != name]))

    def test_examples(self):
        self.assertIsNone(lack(made({})))
        self.assertIsNone(lack(made({"a": [0], "b": [1]}, 3)))
        self.assertEqual(lack(made({"a": [], "b": [0]})), (["a"], []))
        self.assertEqual(lack(made({"d": [], "c": [0], "a": [0], "b": [0]})), (["a", "b"], [key(0)]))
        self.assertEqual(lack(made({"a": [], "c": [0], "d": [0], "b": [0]})), (["a"], []))
        self.assertEqual(lack(made({"a": [0], "b": [0], "c": [0]})), (["a", "b"], [key(0)]))
        some = made({"a": [0, 1], "b": [0, 1], "c": [0, 1], "d": [1]})
        self.assertEqual(lack(some), (["a", "b", "c"], [key(0), key(1)]))


class TimeTest(unittest.TestCase):
    def test_great_graphs(self):
        source = random.Random(44)
        names = [f"e{at:02d}" for at in range(100)]
        full = {name: list(range(200)) for name in names}
        few = {name: list(range(99)) for name in names}
        stairs = {name: list(range(at + 1)) for at, name in enumerate(names)}
        halves = {name: list(range(30)) if at % 2 else list(range(200)) for at, name in enumerate(names)}
        paths = {name: [at, at + 1] for at, name in enumerate(names)}
        paths["e00"] = [1]
        backward = {name: list(range(99 - at, 200)) for at, name in enumerate(names)}
        some = {name: sorted(source.sample(range(200), 3)) for name in names}
        one = {name: [7] for name in names}
        started = time.time()
        for rows in (full, few, stairs, halves, paths, backward, some, one):
            given = made(rows, 200)
            pairs = match(given)
            over, well, under = parts(given)
            self.assertEqual(len(pairs), len(over[1]) + len(well[0]) + len(under[0]))
            found = lack(given)
            self.assertEqual(found is None, len(pairs) == 100)
        self.assertEqual(match(made(stairs, 200)), {name: key(at) for at, name in enumerate(names)})
        self.assertEqual(match(made(full, 200)), {name: key(at) for at, name in enumerate(names)})
        self.assertEqual(lack(made(few, 200)), (names, [key(k) for k in range(99)]))
        self.assertEqual(lack(made(one, 200)), (names[:2], [key(7)]))
        self.assertLess(time.time() - started, 60)


if __name__ == "__main__":
    unittest.main()
