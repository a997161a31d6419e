"""Point 48: expressions that are linear in some keys, and their rows."""

import random
import unittest

from building import num, tower, var, wide
from drawing import NUMBERS, TRUTHS, number
from linkwork.errors import BadKind, ByZero, LinkworkError, NoValue, NotLinear
from linkwork.expressions import evaluate, uses
from linkwork.kinds import parts_of
from linkwork.ratios import Ratio
from linkwork.rows import is_linear, row
from solving import Unchanged, env, key, keys, ratios


def plainly_linear(expression, own):
    """Whether an expression for a number is linear, by the words of point 48."""
    def free(part):
        return not set(uses(part)) & set(own)

    if free(expression) or expression[0] == "var" and expression in own:
        return True
    word, *parts = expression
    if word in ("neg", "add", "sub"):
        return all(plainly_linear(part, own) for part in parts)
    if word == "mul":
        return all(plainly_linear(part, own) for part in parts) and any(free(part) for part in parts)
    if word == "div":
        return plainly_linear(parts[0], own) and free(parts[1])
    if word == "if":
        return free(parts[0]) and plainly_linear(parts[1], own) and plainly_linear(parts[2], own)
    return False


def outcome(function, *arguments):
    """What a function returns, or the class of its error."""
    try:
        return function(*arguments)
    except LinkworkError as error:
        return error.__class__


class LinearTest(Unchanged, unittest.TestCase):
    def linear(self, text, own, expected):
        self.assertIs(self.unchanged(is_linear, key(text), keys(own)), expected, text)

    def test_without_keys(self):
        for text in ("1", "time", "@x", "pre@x", "mul(@x,@x)", "div(1,@x)", "if(less(@x,1),@x,mul(@x,@x))"):
            self.linear(text, "", True)
            self.linear(text, "@y @x'", True)

    def test_keys_alone(self):
        self.linear("@x", "@x", True)
        self.linear("@x'", "@x' @y", True)
        self.linear("pre@x", "@x", True)
        self.linear("mul(pre@x,@x)", "@x", True)
        self.linear("mul(@x',@x)", "@x", True)
        self.linear("mul(@x',@x)", "@x @x'", False)

    def test_words_with_keys_in_each_part(self):
        for text, expected in (
                ("neg(@x)", True), ("neg(mul(@x,@x))", False),
                ("add(@x,1)", True), ("add(1,@x)", True), ("add(@x,@y)", True), ("add(@x,@x)", True),
                ("add(mul(@x,@y),1)", False), ("add(1,mul(@x,@y))", False),
                ("sub(@x,@y)", True), ("sub(@x,mul(@x,@x))", False), ("sub(div(1,@x),@x)", False),
                ("mul(@x,3)", True), ("mul(3,@x)", True), ("mul(@x,@x)", False), ("mul(@x,@y)", False),
                ("mul(0,mul(@x,@y))", False), ("mul(add(@x,1),sub(@z,2))", True), ("mul(sub(@x,@x),@x)", False),
                ("div(@x,3)", True), ("div(@x,@z)", True), ("div(1,@x)", False), ("div(@x,@x)", False),
                ("div(mul(@x,@x),2)", False), ("div(0,@x)", False),
                ("if(less(@z,1),@x,@y)", True), ("if(less(@x,1),@x,@y)", False), ("if(less(@x,1),1,2)", False),
                ("if(true,mul(@x,@x),1)", False), ("if(false,1,div(1,@y))", False), ("if(false,@z,@y)", True)):
            self.linear(text, "@x @y", expected)

    def test_a_key_that_is_a_condition(self):
        self.linear("if(@b,1,2)", "@b", False)
        self.linear("if(@b,@x,@y)", "@b @x", False)
        self.linear("if(@b,@x,@y)", "@x @y", True)

    def test_the_definition(self):
        source = random.Random(48)
        seen = {True: 0, False: 0}
        for _ in range(4000):
            expression = number(source, source.randint(1, 5))
            own = source.sample([var("x"), var("y"), var("x", 1), var("u", 2), var("p")], source.randint(0, 3))
            expected = plainly_linear(expression, own)
            seen[expected] += 1
            self.assertIs(is_linear(expression, own), expected, expression)
        self.assertGreater(min(seen.values()), 300)


class RowTest(Unchanged, unittest.TestCase):
    def row_is(self, text, own, environment, coefficients, constant):
        found = self.unchanged(row, key(text), keys(own), env(environment))
        self.assertEqual(found, (ratios(coefficients), ratios(constant)[0]), text)

    def fails(self, error, text, own="@x", environment=""):
        self.refused(error, row, key(text), keys(own), env(environment))

    def test_each_word(self):
        self.row_is("7/2", "@x @y", "", "0 0", "7/2")
        self.row_is("7/2", "", "", "", "7/2")
        self.row_is("@x", "@x", "", "1", "0")
        self.row_is("@x'", "@x @x'", "", "0 1", "0")
        self.row_is("@x", "", "@x = 5", "", "5")
        self.row_is("neg(add(@x,2))", "@x", "", "-1", "-2")
        self.row_is("add(@x,add(@y,3))", "@y @x", "", "1 1", "3")
        self.row_is("sub(@x,sub(@y,3))", "@y @x", "", "-1 1", "3")
        self.row_is("mul(sub(@x,1),@z)", "@x", "@z = 1/2", "1/2", "-1/2")
        self.row_is("mul(@z,sub(@x,1))", "@x", "@z = 1/2", "1/2", "-1/2")
        self.row_is("div(sub(@x,1),@z)", "@x", "@z = 1/2", "2", "-2")
        self.row_is("if(less(time,1),@x,add(@y,4))", "@x @y", "time = 0", "1 0", "0")
        self.row_is("if(less(time,1),@x,add(@y,4))", "@x @y", "time = 1", "0 1", "4")
        self.row_is("mul(if(initial,2,@x),if(@b,3,pre@x))", "@x", "initial = false, @b = true", "3", "0")
        self.row_is("mul(if(initial,2,@z),if(@b,3,@x))", "@x", "initial = true, @b = false", "2", "0")

    def test_a_key_twice(self):
        self.row_is("add(@x,@x)", "@x", "", "2", "0")
        self.row_is("sub(@x,@x)", "@x", "", "0", "0")
        self.row_is("add(mul(3,@x),sub(@y,mul(@x,1/2)))", "@x @y", "", "5/2 1", "0")
        self.row_is("mul(sub(@x,@x),5)", "@x", "", "0", "0")

    def test_the_environment_may_have_the_keys(self):
        for environment in ("@z = 2", "@z = 2, @x = 9", "@z = 2, @x = true"):
            self.row_is("add(mul(@z,@x),1)", "@x", environment, "2", "1")

    def test_not_linear_goes_first(self):
        for text in ("mul(@x,@x)", "div(1,@x)", "add(@z,mul(@x,@x))", "add(div(1,0),mul(@x,@x))",
                     "add(add(1,@b),mul(@x,@x))", "if(true,1,mul(@x,@x))", "if(less(@x,1),1,2)"):
            self.fails(NotLinear, text, "@x", "@b = true")

    def test_the_first_error_of_the_evaluation(self):
        self.fails(NoValue, "@z")
        self.fails(NoValue, "@x", "@y")
        self.fails(NoValue, "add(@x,@x')")
        self.fails(NoValue, "add(@x,pre@x)")
        self.fails(NoValue, "add(@z,div(1,0))")
        self.fails(ByZero, "add(div(@x,0),@z)")
        self.fails(ByZero, "div(@x,sub(@z,@z))", "@x", "@z = 1")
        self.fails(ByZero, "div(1,0)")
        self.fails(NoValue, "div(@z,0)")
        self.fails(NoValue, "div(0,@z)")
        self.fails(BadKind, "@b", "@x", "@b = true")
        self.fails(BadKind, "add(@b,@z)", "@x", "@b = true")
        self.fails(BadKind, "add(@x,@b)", "@x", "@b = true")
        self.fails(BadKind, "mul(@b,div(1,0))", "@x", "@b = false")
        self.fails(BadKind, "div(@x,@b)", "@x", "@b = false")
        self.fails(BadKind, "neg(@b)", "@x", "@b = false")
        self.fails(BadKind, "if(@z,@x,@y)", "@x @y", "@z = 1")
        self.fails(BadKind, "if(true,@b,@x)", "@x", "@b = true")
        self.fails(NoValue, "if(@b,@x,@y)", "@x @y")
        self.fails(NoValue, "mul(time,@x)")
        self.fails(NoValue, "if(sample(0,1),@x,1)")

    def test_parts_that_are_not_needed(self):
        self.row_is("if(true,@x,@z)", "@x", "", "1", "0")
        self.row_is("if(false,div(@x,0),3)", "@x", "", "0", "3")
        self.row_is("if(or(true,@b),@x,add(1,@b))", "@x", "", "1", "0")
        self.row_is("if(and(false,less(@z,1)),div(@x,0),@x)", "@x", "", "1", "0")

    def test_many_keys_and_deep_expressions(self):
        own = [var(f"x{at}") for at in range(60)]
        total = num(0)
        for at, item in enumerate(own[:25]):
            total = ("add", total, ("mul", num(at), item))
        found = self.unchanged(row, total, own, {})
        self.assertEqual(found, ([Ratio(at if at < 25 else 0) for at in range(60)], Ratio(0)))
        self.assertEqual(row(tower(30, var("x")), [var("x")], {}), ([Ratio(-1)], Ratio(0)))
        self.assertEqual(row(wide(199), [], {}), ([], Ratio(100)))

    def test_against_evaluate(self):
        source = random.Random(480)
        seen = {NoValue: 0, BadKind: 0, ByZero: 0, "row": 0}
        while min(seen.values()) < 150:
            expression = number(source, source.randint(1, 6))
            own = source.sample([var("x"), var("y"), var("x", 1), var("u", 2)], source.randint(0, 3))
            environment = self.drawn(source)
            if not is_linear(expression, own):
                self.refused(NotLinear, row, expression, own, environment)
                continue
            values = {item: Ratio(source.randint(-9, 9), source.randint(1, 5)) for item in own}
            expected = outcome(evaluate, expression, {**environment, **values})
            if isinstance(expected, bool):
                expected = BadKind
            found = outcome(self.unchanged, row, expression, own, environment)
            if isinstance(expected, Ratio):
                coefficients, total = found
                for coefficient, item in zip(coefficients, own):
                    total = total + coefficient * values[item]
                found = total
                seen["row"] += 1
            else:
                seen[expected] += 1
            self.assertEqual(found, expected, expression)

    def drawn(self, source):
        """Values for most keys, some of the wrong kind."""
        found = {}
        for item in NUMBERS + TRUTHS:
            if item[0] in ("var", "pre", "time", "initial") and source.random() < 0.95:
                kind = (item in TRUTHS) != (source.random() < 0.03)
                found[item] = source.random() < 0.5 if kind else Ratio(source.randint(-2, 2), source.randint(1, 2))
        return found


class DrawingTest(unittest.TestCase):
    def test_all_words_are_drawn(self):
        source = random.Random(1)
        seen = set()
        for _ in range(300):
            waiting = [number(source, 5)]
            while waiting:
                part = waiting.pop()
                seen.add(part[0])
                waiting.extend(parts_of(part))
        self.assertEqual(len(seen), 19)


if __name__ == "__main__":
    unittest.main()
