"""Points 53 to 55: signals, bases, beginnings, and the causes of contradictions."""

import random
import unittest
from fractions import Fraction

from building import num, pre, var
from linkwork.beginning import base, begin, blame, signal_value
from linkwork.derivatives import reduced, unknowns
from linkwork.errors import ByZero, LinkworkError, NoSolution, NotLinear, NoValue, Singular, TooLarge
from linkwork.expressions import evaluate, expression_text
from linkwork.linear import contradiction
from linkwork.ratios import Ratio, ratio_text
from linkwork.states import matrix
from linkwork.systems import System, Variable
from solving import Unchanged, built, env, env_text, fractions, plain_rank, ratio, ratios, solutions

ZERO = Ratio(0)


class SignalTest(Unchanged, unittest.TestCase):
    def values(self, coefficients, time, expected):
        for order, value in enumerate(ratios(expected)):
            self.assertEqual(self.unchanged(signal_value, ratios(coefficients), order, ratios(time)[0]), value)

    def test_examples(self):
        self.values("", "3", "0 0 0 0 0")
        self.values("5/2", "3", "5/2 0 0 0 0")
        self.values("1 2", "-3", "-5 2 0 0 0")
        self.values("1 2 3", "1/2", "11/4 5 6 0 0")
        self.values("0 0 0 1", "2", "8 12 12 6 0")
        self.values("7 0 0 0 0 0 0 1", "0", "7 0 0 0 0")
        self.values("1 1 1 1 1 1 1 1", "1", "8 28 112 420 1344")
        self.values("0 0 0 0 0 0 0 1", "-1/2", "-1/128 7/64 -21/16 105/8 -105")

    def test_great_orders(self):
        self.assertEqual(signal_value(ratios("1 2 3"), 3, Ratio(5)), ZERO)
        self.assertEqual(signal_value(ratios("0 0 0 0 0 0 0 1"), 7, Ratio(5)), Ratio(5040))

    def test_against_coefficients_derived_one_by_one(self):
        source = random.Random(53)
        for _ in range(300):
            coefficients = [Ratio(source.randint(-9, 9), source.randint(1, 5)) for _ in range(source.randint(0, 8))]
            time = Ratio(source.randint(-9, 9), source.randint(1, 5))
            derived = [Fraction(number.top, number.bottom) for number in coefficients]
            for order in range(5):
                at = Fraction(time.top, time.bottom)
                value = sum([number * at ** k for k, number in enumerate(derived)], Fraction(0))
                self.assertEqual(self.unchanged(signal_value, coefficients, order, time), ratio(value))
                derived = [number * k for k, number in enumerate(derived)][1:]


class BaseTest(Unchanged, unittest.TestCase):
    SYSTEM = built("state x = 3, state y, state z = 1/2!, input u, parameter p = 5, parameter? q = true, discrete d,"
                   "discrete e = 7!, discrete? b, discrete? c = true",
                   ["@x' = @y", "@y = @z", "@z' = 1"])

    def test_the_keys_and_values(self):
        found = self.unchanged(base, self.SYSTEM, {"u": ratios("1 2 3")}, Ratio(1, 2), True)
        self.assertEqual(env_text(found), env_text(env(
            "time = 1/2, initial = true, @p = 5, @q = true, @u = 11/4, @u' = 5, @u'' = 6, @u''' = 0, @u'''' = 0,"
            "@d = 0, pre@d = 0, @e = 7, pre@e = 7, @b = false, pre@b = false, @c = true, pre@c = true,"
            "pre@x = 3, pre@y = 0, pre@z = 1/2")))
        later = base(self.SYSTEM, {"u": []}, Ratio(-2), False)
        self.assertEqual((later[("initial",)], later[("time",)], later[var("u")]), (False, Ratio(-2), ZERO))
        self.assertIs(found[("initial",)], True)

    def test_nothing(self):
        self.assertEqual(self.unchanged(base, built(""), {}, ZERO, False), {("time",): ZERO, ("initial",): False})

    def test_results_share_nothing(self):
        signals = {"u": ratios("1")}
        found = base(self.SYSTEM, signals, ZERO, True)
        found.clear()
        self.assertEqual(len(base(self.SYSTEM, signals, ZERO, True)), 20)


class BeginTest(Unchanged, unittest.TestCase):
    def begins(self, system, expected, signals=None, time="0"):
        found = self.unchanged(begin, system, signals or {}, ratios(time)[0])
        own = {key: found[key] for key in unknowns(system)}
        self.assertEqual(env_text(own), env_text(env(expected)))
        given = base(system, signals or {}, ratios(time)[0], True)
        self.assertEqual({key: found[key] for key in found if key not in own}, given)
        self.assertEqual(self.unchanged(blame, system, signals or {}, ratios(time)[0]), [])

    def fails(self, error, system, signals=None):
        self.refused(error, begin, system, signals or {}, ZERO)
        self.refused(error, blame, system, signals or {}, ZERO)

    def test_nothing(self):
        self.begins(built(""), "")
        self.begins(built("parameter p = 1", [], ["@p = 1"]), "")

    def test_starts(self):
        self.begins(built("state x = 3", ["@x' = neg(@x)"]), "@x = 3, @x' = -3")
        self.begins(built("state x = 3!", ["@x' = neg(@x)"]), "@x = 3, @x' = -3")
        self.begins(built("state x", ["@x' = add(@x,2)"]), "@x = 0, @x' = 2")
        self.begins(built("state x, state y = 5", ["@x' = @y", "@y' = @x"]), "@x = 0, @x' = 5, @y = 5, @y' = 0")

    def test_a_guess_that_contradicts_or_follows(self):
        self.begins(built("state x = 3, state y = 9", ["@x' = 1", "@y = add(@x,1)"]), "@x = 3, @x' = 1, @y = 4")
        self.begins(built("state x = 3, state y = 4", ["@x' = 1", "@y = add(@x,1)"]), "@x = 3, @x' = 1, @y = 4")
        self.begins(built("state x = 3, state y = 9!", ["@x' = 1", "@y = add(@x,1)"]), "@x = 8, @x' = 1, @y = 9")
        self.begins(built("state x = 3", ["@x' = 1"], ["@x = 7"]), "@x = 7, @x' = 1")

    def test_the_order_of_the_guesses(self):
        # Starts go before zeros, and both are in the order of the names, then of the orders.
        self.begins(built("state a, state b = 2", ["@a' = 1", "@b' = @a"], ["add(@a,@b) = 10"]),
                    "@a = 8, @a' = 1, @b = 2, @b' = 8")
        self.begins(built("state a = 1, state b = 2", ["@a' = 1", "@b' = @a"], ["add(@a,@b) = 10"]),
                    "@a = 1, @a' = 1, @b = 9, @b' = 1")
        self.begins(built("state b = 1, state c, state a = 2", ["@a' = 1", "@b' = 1", "@c' = 1"],
                          ["add(add(@a,@b),@c) = 10"]), "@a = 2, @a' = 1, @b = 1, @b' = 1, @c = 7, @c' = 1")
        self.begins(built("state a, state b", ["@a' = 1", "@b' = 1"], ["add(@a,@b) = 10"]),
                    "@a = 0, @a' = 1, @b = 10, @b' = 1")
        self.begins(built("state a", ["@a'' = 2"], ["add(@a,@a') = 6"]), "@a = 0, @a' = 6, @a'' = 2")

    def test_initial_equations(self):
        self.begins(built("state x", ["@x' = sub(4,@x)"], ["@x' = 0"]), "@x = 4, @x' = 0")
        self.begins(built("state x, state y", ["@x' = @y", "@y' = 1"], {"b": "@y = 2", "a": "add(@x,@y) = 5"}),
                    "@x = 3, @x' = 2, @y = 2, @y' = 1")
        self.begins(built("state x, input u", ["@x' = 0"], ["@x = mul(time,@u')"]), "@x = 6, @x' = 0",
                    {"u": ratios("1 0 1/3")}, "3")
        self.begins(built("state x, discrete d = 3, parameter p = 2", ["@x' = 0"],
                          ["@x = if(initial,add(@d,mul(@p,pre@d)),0)"]), "@x = 9, @x' = 0")
        self.begins(built("state x = 7, state y", ["@x' = 0", "@y = pre@x"]), "@x = 7, @x' = 0, @y = 7")

    def test_equations_that_are_differentiated(self):
        system = built("state x, state y, state z", ["@x' = @y", "@y' = @z", "@x = mul(time,time)"])
        self.begins(system, "@x = 9, @x' = 6, @x'' = 2, @y = 6, @y' = 2, @z = 2", time="3")
        pendulum = built("state a = 2!, state b, state f", ["@a'' = sub(@f,1)", "@b'' = @f", "add(@a,@b) = 1"])
        self.begins(pendulum, "@a = 2, @a' = 0, @a'' = -1/2, @b = -1, @b' = 0, @b'' = 1/2, @f = 1/2")

    def test_no_solution(self):
        for system, causes in (
                (built("state x = 3!", ["@x' = 1"], ["@x = 4"]), ["initial i1 -1", "start x 1"]),
                (built("state x = 3!, state y", ["@x = 1", "@y = 2"]), ["equation e1 0 -1", "start x 1"]),
                (built("state x", ["@x' = 1"], ["@x = 4", "mul(2,@x) = 9"]), ["initial i1 -2", "initial i2 1"]),
                (built("state x", ["@x' = 1"], {"b": "@x = 4", "a": "mul(2,@x) = 9"}),
                 ["initial a -1/2", "initial b 1"]),
                (built("state x", ["@x' = 1"], {"b": "@x = 4", "a": "@x = 5", "c": "@x = 6"}),
                 ["initial a -1", "initial b 1"]),
                (built("state x", ["@x' = 1"], ["1 = 2"]), ["initial i1 1"]),
                (built("", [], ["1 = 2", "1 = 1", "0 = 5"]), ["initial i1 1"]),
                (built("state x = 1!, state y = 2!, state z", ["add(@x,@y) = @z", "@x' = 1", "@y' = @z"], ["@z = 4"]),
                 ["equation e1 0 -1", "initial i1 -1", "start x 1", "start y 1"]),
                (built("state x, state y", ["@x' = @y", "@x = time"], ["@y = 2", "@y = 3"]),
                 ["equation e1 0 1", "equation e2 1 -1", "initial i1 1"])):
            self.refused(NoSolution, begin, system, {}, ZERO)
            found = self.unchanged(blame, system, {}, ZERO)
            self.assertEqual([" ".join(map(str, [*cause[:-1], ratio_text(cause[-1])])) for cause in found], causes)

    def test_errors_in_their_order(self):
        self.fails(Singular, built("state x", [], ["1 = mul(@x,@x)", "1 = 2"]))
        self.fails(TooLarge, built("state x, state y, input u", ["@x'' = @y", "@x = @u'''"], ["1 = mul(@x,@x)"]),
                   {"u": []})
        # Sides that are not linear go before values, those of the initial equations too.
        self.fails(NotLinear, built("state x", ["mul(@x,@x) = div(1,0)"]))
        self.fails(NotLinear, built("state x", ["@x' = div(1,0)"], ["mul(@x,@x) = 1"]))
        self.fails(NotLinear, built("state x", ["@x' = 1"], ["@x'' = 1", "mul(@x,@x) = 1"]))
        self.fails(ByZero, built("state x", ["@x' = div(1,0)"], ["@x'' = 1"]))
        self.fails(ByZero, built("state x", ["@x' = div(1,time)"], ["1 = 2"]))
        self.fails(NoValue, built("state x", ["@x' = 1"], {"b": "@x = div(1,0)", "a": "@x'' = 1"}))
        self.fails(ByZero, built("state x", ["@x' = 1"], {"a": "@x = div(1,0)", "b": "@x'' = 1"}))
        self.fails(NoValue, built("state x", ["@x' = 1"], ["1 = 2", "@x = @x''"]))

    def test_a_key_that_is_neither_an_unknown_nor_known(self):
        self.fails(NoValue, built("state x", ["@x' = 1"], ["@x'' = 0"]))
        self.fails(NoValue, built("state x, state y", ["@x' = @y", "@y = 1"], ["@y' = 0"]))
        self.begins(built("state x", ["@x' = 1"], ["if(true,@x,@x'') = 0"]), "@x = 0, @x' = 1")

    def test_the_definition(self):
        source = random.Random(55)
        seen = {"begun": 0, "contradiction": 0}
        while min(seen.values()) < 60:
            system, signals, time = self.drawn(source)
            try:
                columns = unknowns(system)
                given = base(system, signals, time, True)
                table, constants = matrix(system, given)
            except LinkworkError as error:
                self.refused(error.__class__, begin, system, signals, time)
                continue
            labels = [("equation", name, times) for name, times, _, _ in reduced(system)]
            for name in sorted(system.initials):
                row, constant = self.plain_row(system.initials[name], columns, given)
                table.append(row)
                constants.append(constant)
                labels.append(("initial", name))
            starts = [name for name in sorted(system.variables) if system.variables[name].start is not None]
            for name in starts:
                if system.variables[name].fixed:
                    table.append([Ratio(int(key == var(name))) for key in columns])
                    constants.append(system.variables[name].start)
                    labels.append(("start", name))
            plain, limits = fractions(table), fractions([constants])[0]
            if solutions(plain, limits)[0] is None:
                seen["contradiction"] += 1
                self.refused(NoSolution, begin, system, signals, time)
                factors = contradiction(table, constants)
                expected = [(*label, factor) for label, factor in zip(labels, factors) if factor != ZERO]
                self.assertEqual(self.unchanged(blame, system, signals, time), expected)
                continue
            guesses = [(var(name), system.variables[name].start) for name in starts
                       if not system.variables[name].fixed] + [(key, ZERO) for key in columns]
            for key, number in guesses:
                row = [Fraction(int(key == other)) for other in columns]
                if plain_rank([*plain, row]) > plain_rank(plain):
                    plain.append(row)
                    limits.append(Fraction(number.top, number.bottom))
            numbers, many = solutions(plain, limits)
            self.assertEqual(many, 0)
            seen["begun"] += 1
            self.assertEqual(self.unchanged(begin, system, signals, time),
                             {**given, **{key: ratio(number) for key, number in zip(columns, numbers)}})
            self.assertEqual(self.unchanged(blame, system, signals, time), [])

    def plain_row(self, sides, columns, given):
        """The row of two sides that are linear, found out by values."""
        def difference(values):
            environment = {**given, **{key: Ratio(values.get(key, 0)) for key in columns}}
            return evaluate(sides[0], environment) - evaluate(sides[1], environment)

        constant = difference({})
        return [difference({key: 1}) - constant for key in columns], -constant

    def drawn(self, source):
        names = ["x", "y", "z"][:source.randint(1, 3)]
        variables = {"u": Variable("u", "input")}
        for name in names:
            start = Ratio(source.randint(-2, 2)) if source.random() < 0.6 else None
            variables[name] = Variable(name, "state", start=start, fixed=start is not None and source.random() < 0.4)

        def total(order):
            found = var(source.choice(names), order)
            for _ in range(source.randint(0, 2)):
                part = source.choice([var(source.choice(names), source.randint(0, order)), var("u"), ("time",),
                                      pre(names[0]), num(source.randint(-2, 2))])
                found = (source.choice(("add", "sub")), found, part)
            return found

        equations = {f"e{at}": (total(source.randint(0, 1)), var("u")) for at in range(len(names))}
        initials = {f"i{at}": (total(0), num(source.randint(-2, 2))) for at in range(source.choice((0, 0, 1, 2)))}
        signals = {"u": [Ratio(source.randint(-2, 2)) for _ in range(source.randint(0, 3))]}
        return System(variables, equations, initials, {}), signals, Ratio(source.randint(-2, 2), 2)

    def test_results_share_nothing(self):
        system = built("state x = 3!", ["@x' = 1"], ["@x = 4"])
        blame(system, {}, ZERO).clear()
        self.assertEqual(len(blame(system, {}, ZERO)), 2)
        system = built("state x = 3", ["@x' = 1"])
        begin(system, {}, ZERO).clear()
        self.assertEqual(expression_text(sorted(begin(system, {}, ZERO), key=len)[0]), "time")


if __name__ == "__main__":
    unittest.main()
