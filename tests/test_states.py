"""Point 52: the rows of a system in an environment, and its free unknowns."""

import random
import unittest

from building import num, var
from linkwork.derivatives import offsets, reduced, unknowns
from linkwork.errors import BadKind, ByZero, NotLinear, NoValue, Singular, TooLarge
from linkwork.expressions import evaluate, expression_text
from linkwork.ratios import Ratio
from linkwork.states import free_unknowns, matrix
from linkwork.systems import System, Variable
from solving import Unchanged, built, env, fractions, keys, plain_rank, ratios, rows_text


def plain_free(system, environment, preferred=()):
    """The free unknowns by the words of point 52, or None if they are fewer than the degrees."""
    columns = unknowns(system)
    orders = offsets(system)[1]
    table = fractions(matrix(system, environment)[0])
    candidates = [key for key in columns if key[2] < orders[key[1]]]
    ordered = [key for key in preferred if key in candidates]
    ordered += sorted([key for key in candidates if key not in ordered], key=lambda key: (key[2], key[1]))
    taken = []
    for key in ordered:
        left = [at for at, other in enumerate(columns) if other != key and other not in taken]
        if key not in taken and plain_rank([[row[at] for at in left] for row in table]) == len(table):
            taken.append(key)
    return sorted(taken) if len(taken) >= len(columns) - len(table) else None


def texts(found):
    return " ".join(expression_text(key) for key in found)


def random_system(source):
    """A small linear system with a state in each equation, and an environment of it."""
    size = source.randint(1, 4)
    names = [f"x{at}" for at in range(size)]
    most = source.choice((1, 1, 2, 3))
    equations = {}
    for at in range(size):
        order = source.randint(0, most)
        total = var(names[at], order)
        for name in names:
            if source.random() < 0.6:
                part = var(name, source.randint(0, order))
                total = ("add", total, ("mul", source.choice((num(2), num(-1), var("p"), ("time",))), part))
        equations[f"e{at}"] = (total, source.choice((num(1), var("u"), ("mul", var("p"), ("time",)))))
    variables = {name: Variable(name, "state") for name in names}
    variables.update(u=Variable("u", "input"), p=Variable("p", "parameter", value=Ratio(1)))
    environment = {("time",): Ratio(source.randint(-2, 2)), var("p"): Ratio(source.randint(-2, 2))}
    environment.update({var("u", order): Ratio(source.randint(-3, 3)) for order in range(5)})
    return System(variables, equations, {}, {}), environment


class MatrixTest(Unchanged, unittest.TestCase):
    def matrix_is(self, system, environment, rows, constants):
        found, limits = self.unchanged(matrix, system, env(environment))
        self.assertEqual((rows_text(found), limits), (rows, ratios(constants)))

    def fails(self, error, system, environment=""):
        self.refused(error, matrix, system, env(environment))
        self.refused(error, free_unknowns, system, env(environment))

    def test_nothing(self):
        self.matrix_is(built(""), "", "", "")
        self.assertEqual(self.unchanged(free_unknowns, built(""), {}), [])

    def test_examples(self):
        self.matrix_is(built("state x", ["@x' = add(mul(2,@x),3)"]), "", "-2 1", "3")
        self.matrix_is(built("state x, input u", ["sub(@u,@x) = mul(time,@x')"]), "time = 5, @u = 7", "-1 -5", "-7")
        self.matrix_is(built("state x, state y", {"b": "@x = time", "a": "@x' = @y"}), "time = 1/2",
                       "0 1 -1; 1 0 0; 0 1 0", "0 1/2 1")
        self.matrix_is(built("state x, discrete? b", ["if(@b,@x',@x) = pre@x"]), "@b = false, pre@x = 4", "1 0", "4")

    def test_unknowns_in_the_environment_do_not_matter(self):
        system = built("state x", ["@x' = add(mul(2,@x),3)"])
        for environment in ("@x = 5", "@x = true, @x' = false", "@x' = 1, time = 2"):
            self.matrix_is(system, environment, "-2 1", "3")

    def test_singular_goes_first(self):
        for equations in (["mul(@x,@x) = div(1,0)", "@x' = 1"], ["mul(@x,@y) = div(1,0)"]):
            self.fails(Singular, built("state x, state y", equations))

    def test_too_large_goes_before_not_linear(self):
        self.fails(TooLarge, built("state x, state y, input u", ["@x'' = @y", "add(mul(@x,@x),div(1,0)) = @u'''"]))
        self.fails(TooLarge, built("state x, state y, state z", [
            "if(less(@x'''',0),@y,mul(2,@y)) = 1", "@y' = mul(@z,@z)", "if(less(@x,1),1,2) = time"]))

    def test_not_linear_goes_before_the_evaluation(self):
        system = built("state x, state y, parameter p = 1", ["@x = div(@p,0)", "mul(@y,@y) = 1"])
        self.fails(NotLinear, system)
        self.fails(NotLinear, system, "@p = 1")
        self.fails(NotLinear, built("state x", ["1 = mul(@x,@x)"]))
        self.fails(NotLinear, built("state x", ["if(less(@x,1),1,@x) = 1"]))
        # The condition is that of a derivative, too.
        self.fails(NotLinear, built("state x, state y", ["@x' = @y", "if(less(@y,0),1,@x) = 1"]))

    def test_errors_row_by_row(self):
        system = built("state x, state y, parameter p = 1, input u, discrete? b", {
            "a": "mul(@p,@x) = @u", "b": "div(@y,sub(@p,@p)) = 1"})
        self.fails(NoValue, system)
        self.fails(NoValue, system, "@p = 1")
        self.fails(ByZero, system, "@p = 1, @u = 1")
        self.fails(BadKind, system, "@p = 1, @u = true")
        self.fails(BadKind, system, "@p = true")
        turned = built("state x, state y, parameter p = 1, input u", {
            "b": "mul(@p,@x) = @u", "a": "div(@y,sub(@p,@p)) = 1"})
        self.fails(ByZero, turned, "@p = 1")
        self.fails(BadKind, turned, "@p = false")

    def test_a_left_side_goes_before_a_right_side(self):
        system = built("state x, state y, parameter p = 1, parameter q = 2", [
            "add(@x,@p) = div(1,0)", "@y = 1"])
        self.fails(NoValue, system)
        self.fails(ByZero, system, "@p = 1")

    def test_the_definition(self):
        source = random.Random(52)
        for _ in range(200):
            system, environment = random_system(source)
            try:
                columns = unknowns(system)
                equations = reduced(system)
            except (Singular, TooLarge):
                continue
            found, constants = self.unchanged(matrix, system, environment)
            self.assertEqual(len(found), len(equations))
            values = {key: Ratio(source.randint(-5, 5), source.randint(1, 3)) for key in columns}
            for row, constant, (_, _, left, right) in zip(found, constants, equations):
                self.assertEqual(len(row), len(columns))
                total = -constant
                for number, key in zip(row, columns):
                    total = total + number * values[key]
                both = {**environment, **values}
                self.assertEqual(total, evaluate(left, both) - evaluate(right, both))


class FreeUnknownsTest(Unchanged, unittest.TestCase):
    def free(self, system, expected, preferred="", environment=""):
        found = self.unchanged(free_unknowns, system, env(environment), keys(preferred))
        self.assertEqual(texts(found), expected)

    def test_examples(self):
        self.free(built("state x", ["@x' = @x"]), "@x")
        self.free(built("state x", ["@x = 1"]), "")
        self.free(built("state x", ["@x'' = 1"]), "@x @x'")
        self.free(built("state x, state y", ["@x' = @y", "@x = 1"]), "")
        self.free(built("state y, state x", ["@y' = @x", "@x' = @y"]), "@x @y")
        self.free(built("state x, state y, state z", ["@x' = 1", "@y' = 2", "@z = add(@x,@y)"]), "@x @y")

    def test_the_order_of_the_candidates(self):
        # y is a sum, so that x and y cannot both be free besides z.
        system = built("state x, state y, state z", ["@x' = 1", "@y = add(@x,@z)", "@z' = 2"])
        # x and z are candidates, y is none.
        self.free(system, "@x @z")
        both = built("state x, state y", ["add(@x',@y') = 1", "@x = mul(2,@y)"])
        self.free(both, "@x")
        self.free(both, "@y", "@y")
        self.free(both, "@x", "@x @y")
        # First those of the order 0, then those of the order 1.
        oscillator = built("state a, state b", ["add(@a'',@b'') = 0", "@a = @b"])
        self.free(oscillator, "@a @a'")
        self.free(oscillator, "@a' @b", "@b")
        self.free(oscillator, "@a @b'", "@b'")
        self.free(oscillator, "@b @b'", "@b' @b")

    def test_no_candidates_and_further_occurrences(self):
        both = built("state x, state y", ["add(@x',@y') = 1", "@x = mul(2,@y)"])
        self.free(both, "@y", "@x' @y' @y @y @x")
        self.free(both, "@x", "@z @x' @u")
        self.free(both, "@x", "@x @x @x @y")

    def test_what_the_environment_decides(self):
        system = built("state x, state y, parameter p = 1", ["add(@x',@y') = 1", "@x = mul(@p,@y)"])
        self.free(system, "@x", "", "@p = 1")
        self.free(system, "@y", "", "@p = 0")
        self.free(system, "@y", "@x", "@p = 0")
        self.free(built("state x, state y, discrete? b", ["@x' = 1", "if(@b,@y',@y) = 2"]), "@x @y", "", "@b = true")

    def test_fewer_than_degrees(self):
        system = built("state x, state y, discrete? b", ["@x' = 1", "if(@b,@y',@y) = 2"])
        self.refused(Singular, free_unknowns, system, env("@b = false"))
        self.refused(Singular, free_unknowns, built("state x, parameter p = 0", ["mul(@p,@x') = 1"]), env("@p = 0"))
        self.refused(Singular, free_unknowns, built("state x, state y", ["add(@x',@y) = 1", "add(@x',@y) = @x"]), {})

    def test_no_degrees_are_never_too_few(self):
        self.free(built("state x, parameter p = 0", ["mul(@p,@x) = 1"]), "", "@x", "@p = 0")

    def test_the_definition(self):
        source = random.Random(520)
        seen = {"free": 0, "changed": 0, "singular": 0}
        for _ in range(600):
            system, environment = random_system(source)
            try:
                columns = unknowns(system)
                reduced(system)
            except (Singular, TooLarge):
                continue
            preferred = [source.choice([*columns, var("z")]) for _ in range(source.choice((0, 1, 2, 5)))]
            expected = plain_free(system, environment, preferred)
            if expected is None:
                seen["singular"] += 1
                self.refused(Singular, free_unknowns, system, environment, preferred)
                continue
            self.assertEqual(self.unchanged(free_unknowns, system, environment, preferred), expected)
            seen["free"] += bool(expected)
            seen["changed"] += expected != plain_free(system, environment)
            self.assertEqual(free_unknowns(system, environment, tuple(preferred)), expected)
            self.check_that_they_decide(system, environment, expected)
        self.assertGreater(min(seen.values()), 20, seen)

    def check_that_they_decide(self, system, environment, found):
        table = fractions(matrix(system, environment)[0])
        columns = unknowns(system)
        if len(found) == len(columns) - len(table) > 0:
            left = [at for at, key in enumerate(columns) if key not in found]
            self.assertEqual(plain_rank([[row[at] for at in left] for row in table]), len(left))

    def test_results_share_nothing(self):
        system = built("state x", ["@x' = @x"])
        rows, constants = matrix(system, {})
        rows[0].clear()
        constants.clear()
        free_unknowns(system, {}).clear()
        self.assertEqual(rows_text(matrix(system, {})[0]), "-1 1")
        self.assertEqual(texts(free_unknowns(system, {})), "@x")


if __name__ == "__main__":
    unittest.main()
