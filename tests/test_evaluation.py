"""Point 6: the value of an expression in an environment."""

import unittest

from building import FALSE, INITIAL, TIME, TRUE, num, pre, shape, var
from linkwork.errors import BadKind, ByZero, NoValue
from linkwork.expressions import evaluate
from linkwork.ratios import Ratio

ENVIRONMENT = {
    ("var", "x", 0): Ratio(3), ("var", "x", 1): Ratio(-1, 2), ("var", "t", 0): True, ("pre", "x"): Ratio(5),
    ("pre", "t"): False, TIME: Ratio(7, 2), INITIAL: False,
}
MISSING = var("missing")
BY_ZERO = ("div", num(1), num(0))
# What the first of these meets is met first: three parts that fail in three ways.
FAILING = [(MISSING, NoValue), (BY_ZERO, ByZero), (("neg", TRUE), BadKind)]

NUMBER_OPERATORS = ["add", "sub", "mul", "div", "less", "atmost"]


class ValueTest(unittest.TestCase):
    def check(self, expression, wanted):
        environment = dict(ENVIRONMENT)
        self.assertEqual(shape(evaluate(expression, environment)), shape(wanted), expression)
        self.assertEqual(shape(environment), shape(ENVIRONMENT))

    def test_leaves(self):
        for expression, wanted in [
            (num(2, 3), Ratio(2, 3)), (TRUE, True), (FALSE, False), (TIME, Ratio(7, 2)), (INITIAL, False),
            (var("x"), Ratio(3)), (var("x", 1), Ratio(-1, 2)), (var("t"), True), (pre("x"), Ratio(5)),
            (pre("t"), False),
        ]:
            self.check(expression, wanted)

    def test_numbers(self):
        a, b = num(3, 2), num(-2)
        for expression, wanted in [
            (("neg", a), Ratio(-3, 2)), (("add", a, b), Ratio(-1, 2)), (("sub", a, b), Ratio(7, 2)),
            (("sub", b, a), Ratio(-7, 2)), (("mul", a, b), Ratio(-3)), (("div", a, b), Ratio(-3, 4)),
            (("div", b, a), Ratio(-4, 3)), (("less", a, b), False), (("less", b, a), True), (("less", a, a), False),
            (("atmost", a, b), False), (("atmost", b, a), True), (("atmost", a, a), True),
        ]:
            self.check(expression, wanted)

    def test_truths(self):
        for first in (True, False):
            self.check(("not", ("truth", first)), not first)
            for second in (True, False):
                parts = (("truth", first), ("truth", second))
                self.check(("and", *parts), first and second)
                self.check(("or", *parts), first or second)
                self.check(("same", *parts), first == second)

    def test_same_numbers(self):
        self.check(("same", num(1, 2), num(2, 4)), True)
        self.check(("same", num(1, 2), num(1, 3)), False)

    def test_if(self):
        self.check(("if", TRUE, num(1), num(2)), Ratio(1))
        self.check(("if", FALSE, num(1), num(2)), Ratio(2))
        self.check(("if", var("t"), FALSE, TRUE), False)

    def test_sample(self):
        for first, period, time, wanted in [
            ((0, 1), (1, 1), (0, 1), True), ((0, 1), (1, 1), (1, 1), True), ((0, 1), (1, 1), (1, 2), False),
            ((0, 1), (1, 1), (-1, 1), False), ((1, 2), (1, 3), (7, 6), True), ((1, 2), (1, 3), (1, 2), True),
            ((1, 2), (1, 3), (1, 6), False), ((-3, 1), (2, 1), (1, 1), True), ((-3, 1), (2, 1), (2, 1), False),
        ]:
            expression = ("sample", Ratio(*first), Ratio(*period))
            self.assertIs(evaluate(expression, {TIME: Ratio(*time)}), wanted)

    def test_nested(self):
        self.check(("if", ("less", var("x"), TIME), ("mul", var("x", 1), ("neg", pre("x"))), MISSING), Ratio(5, 2))


class ErrorTest(unittest.TestCase):
    def check(self, expression, error, environment=None):
        environment = dict(ENVIRONMENT) if environment is None else environment
        before = shape(environment)
        with self.assertRaises(error, msg=str(expression)):
            evaluate(expression, environment)
        self.assertEqual(shape(environment), before)

    def test_missing_keys(self):
        for expression in [MISSING, var("x", 2), pre("y"), TIME, INITIAL, ("sample", Ratio(0), Ratio(1))]:
            environment = {("var", "x", 0): Ratio(3), ("pre", "x"): Ratio(1)}
            self.check(expression, NoValue, environment)

    def test_sample_needs_a_number_as_time(self):
        self.check(("sample", Ratio(0), Ratio(1)), BadKind, {TIME: True})

    def test_the_first_part_is_met_first(self):
        for word in NUMBER_OPERATORS + ["same"]:
            for first, error in FAILING:
                for second, _ in FAILING:
                    self.check((word, first, second), error)

    def test_the_second_part_is_met_behind_a_good_first_one(self):
        for word in NUMBER_OPERATORS + ["same"]:
            for second, error in FAILING:
                self.check((word, num(1), second), error)

    def test_kinds_are_met_as_soon_as_a_part_is_evaluated(self):
        for word in NUMBER_OPERATORS:
            for second, _ in FAILING:
                self.check((word, var("t"), second), BadKind)
            self.check((word, num(1), var("t")), BadKind)
        for word in ("and", "or", "if"):
            rest = (BY_ZERO, MISSING) if word == "if" else (MISSING,)
            self.check((word, var("x"), *rest), BadKind)
        self.check(("neg", pre("t")), BadKind)
        self.check(("not", TIME), BadKind)

    def test_kinds_of_same_are_met_behind_both_parts(self):
        self.check(("same", TRUE, num(1)), BadKind)
        self.check(("same", num(1), TRUE), BadKind)
        self.check(("same", TRUE, BY_ZERO), ByZero)
        self.check(("same", num(1), MISSING), NoValue)

    def test_a_divisor_0_is_met_behind_both_parts(self):
        self.check(("div", num(1), ("sub", var("x"), num(3))), ByZero)
        self.check(("div", MISSING, num(0)), NoValue)
        self.check(("div", TRUE, num(0)), BadKind)
        self.check(("div", num(0), num(0)), ByZero)

    def test_conditions_that_fail(self):
        for condition, error in FAILING:
            self.check(("if", condition, num(1), num(2)), error)
            self.check(("and", condition, MISSING), error)
            self.check(("or", condition, MISSING), error)
            self.check(("not", condition), error)
            self.check(("neg", condition), error)

    def test_second_truths_of_the_wrong_kind(self):
        self.check(("and", TRUE, var("x")), BadKind)
        self.check(("or", FALSE, var("x")), BadKind)


class LeftOutTest(unittest.TestCase):
    def test_what_is_not_needed_is_left_out(self):
        for unneeded, _ in FAILING:
            self.assertIs(evaluate(("and", FALSE, unneeded), {}), False)
            self.assertIs(evaluate(("or", TRUE, unneeded), {}), True)
            self.assertEqual(evaluate(("if", TRUE, num(1), unneeded), {}), Ratio(1))
            self.assertEqual(evaluate(("if", FALSE, unneeded, num(1)), {}), Ratio(1))

    def test_what_is_needed_is_not_left_out(self):
        for needed, error in FAILING:
            for expression in [("and", TRUE, needed), ("or", FALSE, needed), ("if", TRUE, needed, num(1)),
                               ("if", FALSE, num(1), needed)]:
                with self.assertRaises(error):
                    evaluate(expression, {})


if __name__ == "__main__":
    unittest.main()
