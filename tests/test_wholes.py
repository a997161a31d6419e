"""Point 18: whole expressions."""

import unittest

from building import shape
from linkwork.wholes import whole
from modelling import is_refused, tree

NUMBERS = {"n": 3, "m": -2, "big": 10000, "small": -10000, "huge": 10001, "deep": -10001, "zero": 0}


class WholeTest(unittest.TestCase):
    def value(self, text, expected, numbers=None):
        numbers = NUMBERS if numbers is None else numbers
        before = shape(numbers)
        found = whole(tree(text), numbers)
        self.assertIs(found.__class__, int, text)
        self.assertEqual(found, expected, text)
        self.assertEqual(shape(numbers), before)

    def refused(self, *texts):
        for text in texts:
            self.assertTrue(is_refused(whole, tree(text), dict(NUMBERS)), text)

    def test_numbers(self):
        self.value("7", 7)
        self.value("2.0", 2)
        self.value("0", 0)
        self.refused("1.5", "0.1")

    def test_references(self):
        self.value("n", 3)
        self.value("m", -2)
        self.refused("x", "N", "n.m", "n[1]", "n[1].m")
        self.assertTrue(is_refused(whole, tree("n"), {}))

    def test_operators(self):
        self.value("-n", -3)
        self.value("n + m", 1)
        self.value("n - m", 5)
        self.value("n * m", -6)
        self.value("n * (m - 1) + 10 / 5", -7)
        self.value("-(-1)", 1)

    def test_division(self):
        self.value("6 / n", 2)
        self.value("-6 / n", -2)
        self.value("6 / (-3)", -2)
        self.value("-6 / (-n)", 2)
        self.value("0 / 5", 0)
        self.refused("7 / n", "-7 / n", "1 / 2", "1 / 0", "0 / 0", "n / zero", "1 / 2 * 2")

    def test_bounds(self):
        self.value("10000", 10000)
        self.value("-10000", -10000)
        self.value("big", 10000)
        self.value("small", -10000)
        self.value("100 * 100", 10000)
        self.value("9999 + 1", 10000)
        self.value("-9999 - 1", -10000)
        self.refused("10001", "-10001", "huge", "deep", "big + 1", "small - 1", "100 * 101", "10001 / 1",
                     "-(-5001 - 5000)")

    def test_bounds_of_parts(self):
        self.refused("10001 - 1", "-10001 + 1", "10000 + 1 - 1", "20000 / 2", "0 * 10001", "huge - 2", "-deep - 2")
        self.refused("if 10001 > 0 then 1 else 2", "if huge == huge then 1 else 2", "if true then 10001 else 1")

    def test_ifs(self):
        self.value("if true then 1 else 2", 1)
        self.value("if false then 1 else 2", 2)
        self.value("1 + (if n > 2 then if m > 0 then 5 else 6 else 7)", 7)

    def test_comparisons(self):
        for sign, truths in (("<", (True, False, False)), ("<=", (True, True, False)), (">", (False, False, True)),
                             (">=", (False, True, True)), ("==", (False, True, False)), ("<>", (True, False, True))):
            for left, is_true in zip((2, 3, 4), truths):
                self.value(f"if {left} {sign} n then 1 else 0", int(is_true))

    def test_conditions(self):
        for left in (True, False):
            for right in (True, False):
                sides = [str(left).lower(), "n == 3" if right else "n == 4"]
                self.value(f"if {sides[0]} and {sides[1]} then 1 else 0", int(left and right))
                self.value(f"if {sides[0]} or {sides[1]} then 1 else 0", int(left or right))
                self.value(f"if not {sides[1]} then 1 else 0", int(not right))

    def test_parts_that_are_not_needed(self):
        self.value("if true then 1 else x", 1)
        self.value("if false then 1 / 0 else 2", 2)
        self.value("if n == 3 then 1 else 20000", 1)
        self.value("if n == 4 and x == 1 then 1 else 2", 2)
        self.value("if n == 3 or 1 / 0 == 1 then 1 else 2", 1)
        self.value("if n == 3 or 1 / 2 == 1 then 1 else 2", 1)
        self.refused("if x == 1 and n == 4 then 1 else 2", "if 1 / 0 == 1 or n == 3 then 1 else 2",
                     "if n == 3 and x == 1 then 1 else 2", "if n == 4 or x == 1 then 1 else 2", "0 * x")

    def test_what_is_not_whole(self):
        self.refused("true", "n < 3", "not true", "true and true", "true or true", "n == 3", "time", "der(n)", "pre(n)",
                     "sum({1, 2})", "{1}", "size(n)", "size(n) * 0", "initial()", "sample(0, 1)")
        self.refused("1 + true", "-true", "true * 1", "if 1 then 2 else 3", "if n then 2 else 3",
                     "if true then true else 1")
        self.refused("if time > 0 then 1 else 2", "if initial() then 1 else 2", "if sample(0, 1) then 1 else 2",
                     "if true == true then 1 else 2", "if true == (1 < 2) then 1 else 2",
                     "if (if true then true else false) then 1 else 2", "if not n then 1 else 2",
                     "if true and n then 1 else 2", "if n or true then 1 else 2", "if 1.5 < 2 then 1 else 2")


if __name__ == "__main__":
    unittest.main()
