"""Points 49 and 51: derivatives by time, and what satisfies the reduced equations."""

import random
import unittest

from building import num, pre, tower, var, wide
from drawing import number
from linkwork.derivatives import derivative, reduced
from linkwork.errors import LinkworkError, Singular, TooLarge
from linkwork.expressions import depth, evaluate, expression_text, size
from linkwork.kinds import parts_of
from linkwork.ratios import Ratio
from linkwork.systems import System, Variable
from solving import Unchanged, built, key

SYSTEM = built("state x, state y, input u, parameter p = 2, discrete n = 1, discrete? b = true, parameter? q = true")


def product(factors):
    """The product of factors, from the left."""
    total = factors[0]
    for factor in factors[1:]:
        total = ("mul", total, factor)
    return total


def with_neg(expression, many):
    for _ in range(many):
        expression = ("neg", expression)
    return expression


class DerivativeTest(Unchanged, unittest.TestCase):
    def derived(self, text, expected):
        self.assertEqual(expression_text(self.unchanged(derivative, SYSTEM, key(text))), expected)

    def refuse(self, expression):
        self.refused(TooLarge, derivative, SYSTEM, expression)

    def test_leaves(self):
        for text, expected in (
                ("5", "0"), ("-1/2", "0"), ("time", "1"), ("pre@x", "0"), ("pre@n", "0"), ("@p", "0"), ("@n", "0"),
                ("@x", "@x'"), ("@x'", "@x''"), ("@x'''", "@x''''"), ("@u", "@u'"), ("@u'''", "@u''''")):
            self.derived(text, expected)

    def test_words(self):
        for text, expected in (
                ("neg(@x)", "neg(@x')"), ("neg(3)", "neg(0)"), ("add(@x,time)", "add(@x',1)"),
                ("sub(@u,@p)", "sub(@u',0)"), ("mul(@x,@y)", "add(mul(@x',@y),mul(@x,@y'))"),
                ("mul(2,@x)", "add(mul(0,@x),mul(2,@x'))"), ("mul(0,0)", "add(mul(0,0),mul(0,0))"),
                ("div(@x,@y)", "div(sub(mul(@x',@y),mul(@x,@y')),mul(@y,@y))"),
                ("div(@x,2)", "div(sub(mul(@x',2),mul(@x,0)),mul(2,2))"),
                ("if(less(@x,@x''''),@x,time)", "if(less(@x,@x''''),@x',1)"),
                ("if(@b,1,mul(@x,@x))", "if(@b,0,add(mul(@x',@x),mul(@x,@x')))"),
                ("if(sample(0,1),@n,pre@y)", "if(sample(0,1),0,0)"),
                ("if(same(if(@q,@x,@y),1),@x,@y)", "if(same(if(@q,@x,@y),1),@x',@y')")):
            self.derived(text, expected)

    def test_parts_of_parts(self):
        self.derived("neg(add(mul(@x',time),sub(@p,@u)))",
                     "neg(add(add(mul(@x'',time),mul(@x',1)),sub(0,@u')))")
        self.derived("mul(mul(@x,@y),@u)",
                     "add(mul(add(mul(@x',@y),mul(@x,@y')),@u),mul(mul(@x,@y),@u'))")

    def test_the_order_5(self):
        for text in ("@x''''", "@u''''", "neg(@x'''')", "add(1,@x'''')", "mul(0,@u'''')", "div(@x'''',2)",
                     "if(true,@x,@x'''')"):
            self.refuse(key(text))
        self.derived("if(less(@x'''',1),@x''',@u''')", "if(less(@x'''',1),@x'''',@u'''')")

    def test_the_depth(self):
        found = derivative(SYSTEM, tower(30, var("x")))
        self.assertEqual((depth(found), found), (30, tower(30, var("x", 1))))
        # The derivative of a product is one deeper than the product, that of a quotient two.
        inner = ("mul", var("x"), var("y"))
        self.assertEqual(depth(self.unchanged(derivative, SYSTEM, with_neg(inner, 27))), 30)
        self.refuse(with_neg(inner, 28))
        inner = ("div", var("x"), var("y"))
        self.assertEqual(depth(self.unchanged(derivative, SYSTEM, with_neg(inner, 26))), 30)
        self.refuse(with_neg(inner, 27))

    def test_the_size(self):
        # The derivative of a sum is as large as the sum; a product of 2 becomes 7 instead of 3.
        self.assertEqual(size(derivative(SYSTEM, wide(199))), 199)
        sum_of_products = ("mul", var("x"), var("y"))
        while size(derivative(SYSTEM, sum_of_products)) < 199:
            sum_of_products = ("add", sum_of_products, ("mul", var("x"), var("y")))
        self.assertEqual(size(derivative(SYSTEM, sum_of_products)), 199)
        self.assertEqual(size(self.unchanged(derivative, SYSTEM, ("neg", sum_of_products))), 200)
        self.refuse(("neg", ("neg", sum_of_products)))
        self.refuse(("add", sum_of_products, num(1)))

    def test_large_derivatives(self):
        self.refuse(product([var("x")] * 30))
        quotient = var("x")
        for _ in range(29):
            quotient = ("div", var("y"), quotient)
        self.refuse(quotient)
        self.refuse(("mul", wide(99), wide(99)))

    def test_the_definition(self):
        source = random.Random(49)
        seen = {True: 0, False: 0}
        for _ in range(3000):
            expression = number(source, source.randint(1, 6))
            expected = plainly_derived(expression)
            refused = expected is None or size(expected) > 200 or depth(expected) > 30
            seen[refused] += 1
            if refused:
                self.refuse(expression)
            else:
                self.assertEqual(self.unchanged(derivative, SYSTEM, expression), expected)
        self.assertGreater(min(seen.values()), 10)


def plainly_derived(expression):
    """The derivative by the words of point 49, or None if there is an order above 4."""
    word, *parts = expression
    if word == "var":
        name, order = parts
        if SYSTEM.variables[name].kind not in ("state", "input"):
            return num(0)
        return var(name, order + 1) if order < 4 else None
    if word in ("num", "pre", "time"):
        return num(1 if word == "time" else 0)
    if word == "if":
        found = [plainly_derived(part) for part in parts[1:]]
        return None if None in found else (word, parts[0], *found)
    found = [plainly_derived(part) for part in parts]
    if None in found:
        return None
    if word in ("neg", "add", "sub"):
        return (word, *found)
    first, second = parts
    left, right = ("mul", found[0], second), ("mul", first, found[1])
    return ("add", left, right) if word == "mul" else ("div", ("sub", left, right), ("mul", second, second))


def polynomial_value(coefficients, order, time):
    """The value of a derivative of a polynomial of time."""
    for _ in range(order):
        coefficients = [number * Ratio(k) for k, number in enumerate(coefficients)][1:]
    total = Ratio(0)
    for number in coefficients[::-1]:
        total = total * time + number
    return total


class SatisfiedTest(unittest.TestCase):
    """Point 51."""

    def test_polynomials_satisfy_the_reduced_equations(self):
        source = random.Random(51)
        seen = {0: 0, 1: 0, 2: 0, 3: 0}
        for _ in range(1500):
            system, courses = self.drawn(source)
            try:
                equations = reduced(system)
            except (Singular, TooLarge):
                continue
            for time in (Ratio(0), Ratio(-3, 2), Ratio(5, 7), Ratio(2)):
                environment = self.at(courses, time)
                for name, times, left, right in equations:
                    try:
                        residual = evaluate(left, environment) - evaluate(right, environment)
                    except LinkworkError:
                        continue
                    seen[min(times, 3)] += 1
                    self.assertEqual(residual, Ratio(0), (name, times))
        self.assertGreater(min(seen.values()), 20, seen)

    def at(self, courses, time):
        found = {("time",): time, var("p"): Ratio(3), var("n"): Ratio(1, 2), pre("n"): Ratio(2)}
        for name, coefficients in courses.items():
            for order in range(5):
                found[var(name, order)] = polynomial_value(coefficients, order, time)
        return found

    def drawn(self, source):
        """A system, and polynomials for its states and inputs that satisfy it: right sides are what left sides are."""
        names = ["x", "y", "z"][:source.randint(1, 3)]
        courses = {name: [Ratio(source.randint(-3, 3)) for _ in range(source.randint(0, 4))] for name in [*names, "u"]}
        equations = {}
        for name in names:
            order = source.randint(0, 3)
            leaves = [var(state, order) for state in names] * 3 + [var(name), var("u"), ("time",), var("p"), var("n")]
            left = self.sum_of_some(source, leaves)
            equations[f"e{name}"] = (left, self.course(left, courses))
        variables = {name: Variable(name, "state") for name in names}
        variables.update(u=Variable("u", "input"), p=Variable("p", "parameter", value=Ratio(3)),
                         n=Variable("n", "discrete"))
        return System(variables, equations, {}, {}), courses

    def sum_of_some(self, source, leaves):
        total = source.choice(leaves)
        for _ in range(source.randint(0, 2)):
            total = (source.choice(("add", "sub", "mul")), total, source.choice([*leaves, num(2)]))
        if source.random() < 0.2:
            total = ("div", total, ("add", ("mul", ("time",), ("time",)), num(1)))
        return total

    def course(self, expression, courses):
        """The expression with polynomials of time in the place of states: what it is over time."""
        word = expression[0]
        if word == "var" and expression[1] in courses and expression[1] != "u":
            total = num(0)
            coefficients = courses[expression[1]]
            for exponent in range(len(coefficients) - 1, expression[2] - 1, -1):
                factor = 1
                for step in range(expression[2]):
                    factor *= exponent - step
                total = ("add", ("mul", total, ("time",)), ("num", coefficients[exponent] * Ratio(factor)))
            return total
        parts = [self.course(part, courses) for part in parts_of(expression)]
        return (word, *parts) if parts else expression


if __name__ == "__main__":
    unittest.main()
