"""Point 45: blocks and their order."""

import random
import unittest

from building import shape
from graphs import all_graphs, key, made, matchings, random_graph
from linkwork.blocks import blocks
from linkwork.errors import Singular


def defined_blocks(joined, pairs):
    """The blocks by the words of point 45, with one matching of all equations and keys."""
    owners = {pairs[name]: name for name in pairs}
    ways = {(name, owners[key]) for name in joined for key in joined[name]}
    for middle in joined:
        for first in joined:
            for last in joined:
                if (first, middle) in ways and (middle, last) in ways:
                    ways.add((first, last))
    groups = []
    for name in sorted(joined):
        group = sorted([other for other in joined if other == name or {(name, other), (other, name)} <= ways])
        if group not in groups:
            groups.append(group)
    found = []
    while groups:
        free = [group for group in groups if not any((name, other) in ways for name in group for rest in groups
                                                     if rest != group for other in rest)]
        chosen = min(free, key=lambda group: group[0])
        groups.remove(chosen)
        found.append((chosen, sorted([pairs[name] for name in chosen])))
    return found


def small_graphs():
    source = random.Random(45)
    for size in range(4):
        yield from all_graphs(size, size)
    for equations, keys in ((1, 0), (0, 1), (2, 1), (1, 2), (3, 2), (2, 3)):
        yield from all_graphs(equations, keys)
    for _ in range(600):
        size = source.randrange(4, 6)
        yield random_graph(source, size, source.choice((size, size, size, size + 1)), source.choice((0.25, 0.4, 0.5)))


class BlockTest(unittest.TestCase):
    def test_the_definition(self):
        seen = 0
        for some in small_graphs():
            before = shape(some)
            keys, joined = some
            whole = [pairs for pairs in matchings(some) if len(pairs) == len(joined) == len(keys)]
            if not whole:
                with self.assertRaises(Singular):
                    blocks(some)
                continue
            found = blocks(some)
            seen += len(found) > 1
            self.assertEqual(shape(some), before)
            for pairs in whole:
                self.assertEqual(found, defined_blocks(joined, pairs), some)
            known = []
            for names, own in found:
                known += own
                self.assertTrue(all(set(joined[name]) <= set(known) for name in names))
        self.assertGreater(seen, 100)

    def test_an_empty_graph(self):
        self.assertEqual(blocks(made({})), [])

    def test_the_order(self):
        self.assertEqual(blocks(made({"c": [0], "b": [1], "a": [2]})),
                         [(["a"], [key(2)]), (["b"], [key(1)]), (["c"], [key(0)])])
        self.assertEqual(blocks(made({"a": [0, 2], "b": [1, 0], "c": [2], "d": [3]})),
                         [(["c"], [key(2)]), (["a"], [key(0)]), (["b"], [key(1)]), (["d"], [key(3)])])
        self.assertEqual(blocks(made({"a": [0, 1], "b": [2, 3], "c": [2, 3], "d": [0, 1, 2]})),
                         [(["b", "c"], [key(2), key(3)]), (["a", "d"], [key(0), key(1)])])
        self.assertEqual(blocks(made({"e10": [0], "e2": [1], "e1": [2, 0]})),
                         [(["e10"], [key(0)]), (["e1"], [key(2)]), (["e2"], [key(1)])])

    def test_one_block(self):
        self.assertEqual(blocks(made({"a": [0, 1], "b": [1, 2], "c": [2, 0]})),
                         [(["a", "b", "c"], [key(0), key(1), key(2)])])

    def test_singular(self):
        for some in (made({"a": [0], "b": [0]}), made({"a": [0], "b": [0]}, 2), made({"a": [0]}, 2), made({"a": []}),
                     made({}, 1), made({"a": [0, 1], "b": [0, 1], "c": [0, 1]}, 3)):
            with self.assertRaises(Singular):
                blocks(some)

    def test_great_graphs(self):
        names = [f"e{at:02d}" for at in range(100)]
        self.assertEqual(blocks(made({name: list(range(100)) for name in names})),
                         [(names, [key(k) for k in range(100)])])
        stairs = blocks(made({name: list(range(99 - at, 100)) for at, name in enumerate(names)}))
        self.assertEqual(stairs, [([name], [key(99 - at)]) for at, name in enumerate(names)])
        rows = {name: list(range(at + 1)) for at, name in enumerate(names)}
        self.assertEqual(blocks(made(rows)), [([name], [key(at)]) for at, name in enumerate(names)])

    def test_results_share_nothing(self):
        some = made({"a": [0]})
        blocks(some)[0][0].clear()
        self.assertEqual(blocks(some), [(["a"], [key(0)])])
        self.assertEqual(some, made({"a": [0]}))


if __name__ == "__main__":
    unittest.main()
