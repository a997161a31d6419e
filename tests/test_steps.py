"""Point 56: steps of time, also of systems whose equations must be differentiated."""

import random
import unittest

from building import num, pre, var
from linkwork.beginning import base, begin
from linkwork.derivatives import reduced, unknowns
from linkwork.errors import ByZero, LinkworkError, NotLinear, NoValue, Singular, TooLarge
from linkwork.expressions import evaluate
from linkwork.ratios import Ratio
from linkwork.states import free_unknowns
from linkwork.steps import step
from linkwork.systems import System, Variable
from solving import Unchanged, built, env, env_text, ratios

ZERO = Ratio(0)
HALF = Ratio(1, 2)


class StepTest(Unchanged, unittest.TestCase):
    def begun(self, system, signals=None, time="0"):
        return begin(system, signals or {}, ratios(time)[0])

    def steps_to(self, system, expected, method="backward", time="1/2", signals=None, start=None):
        """The unknowns behind one step from the beginning are as expected."""
        before = start or self.begun(system, signals)
        found = self.unchanged(step, system, before, signals or {}, ratios(time)[0], method)
        self.assertEqual(env_text({key: found[key] for key in unknowns(system)}), env_text(env(expected)))
        return found

    def test_nothing(self):
        found = self.unchanged(step, built("parameter p = 1"), env("time = 0, initial = true, @p = 4"), {}, HALF,
                               "backward")
        self.assertEqual(found, env("time = 1/2, initial = false, @p = 4"))

    def test_both_methods(self):
        falling = built("state x = 6", ["@x' = neg(@x)"])
        self.steps_to(falling, "@x = 4, @x' = -4")
        self.steps_to(falling, "@x = 18/5, @x' = -18/5", "trapezoid")
        self.steps_to(falling, "@x = 3, @x' = -3", time="1")
        self.steps_to(falling, "@x = 2, @x' = -2", "trapezoid", "1")
        # The slope is 2t: backward takes the new one, trapezoid the mean, which is exact here.
        squares = built("state x = 1", ["@x' = mul(2,time)"])
        self.steps_to(squares, "@x = 19, @x' = 6", "backward", "3")
        self.steps_to(squares, "@x = 10, @x' = 6", "trapezoid", "3")

    def test_two_states(self):
        swing = built("state x = 1, state v", ["@x' = @v", "@v' = neg(@x)"])
        self.steps_to(swing, "@x = 4/5, @x' = -2/5, @v = -2/5, @v' = -4/5")
        self.steps_to(swing, "@x = 15/17, @x' = -8/17, @v = -8/17, @v' = -15/17", "trapezoid")

    def test_a_higher_order(self):
        # The free unknowns are @x and @x'.
        fall = built("state x = 100", ["@x'' = -10"])
        self.steps_to(fall, "@x = 90, @x' = -10, @x'' = -10", "backward", "1")
        self.steps_to(fall, "@x = 95, @x' = -10, @x'' = -10", "trapezoid", "1")

    def test_what_is_known_in_the_new_environment(self):
        system = built("state x = 2, state y, input u, parameter p = 5, parameter? q = true, discrete d = 3,"
                       "discrete? b = true", ["@x' = @u", "@y = add(@x,@d)"])
        before = self.begun(system, {"u": ratios("0 2 3")})
        before[var("d")] = Ratio(8)
        before[var("p")] = Ratio(6)
        before[var("b")] = False
        found = self.unchanged(step, system, before, {"u": ratios("1 2 3")}, Ratio(1), "backward")
        self.assertEqual(env_text(found), env_text(env(
            "time = 1, initial = false, @p = 6, @q = true, @u = 6, @u' = 8, @u'' = 6, @u''' = 0, @u'''' = 0, @d = 8,"
            "pre@d = 8, @b = false, pre@b = false, pre@x = 2, pre@y = 5, @x = 8, @x' = 6, @y = 16")))

    def test_initial_and_pre_in_equations(self):
        system = built("state x = 2, state y = 7!", ["@x' = if(initial,10,3)", "@y = if(initial,7,pre@x)"])
        self.steps_to(system, "@x = 5, @x' = 3, @y = 2", time="1")
        self.steps_to(system, "@x = 17/2, @x' = 3, @y = 2", "trapezoid", "1")

    def test_states_that_are_not_free(self):
        system = built("state x = 1, state y", ["@x' = @y", "@y = mul(3,@x)"])
        self.steps_to(system, "@x = 2, @x' = 6, @y = 6", time="1/6")
        given = built("state x, state y", ["@x' = @y", "@x = mul(time,time)"])
        self.steps_to(given, "@x = 9, @x' = 6, @y = 6", time="3")
        self.steps_to(given, "@x = 9, @x' = 6, @y = 6", "trapezoid", "3")

    def test_free_unknowns_are_those_of_the_environment_before(self):
        # With p = 1 one of x and y is free, and x goes first; with p = 0 it is y.
        system = built("state x, state y = 1, discrete p = 1, discrete q", [
            "add(@x',mul(2,@y')) = 1", "@x = mul(if(less(time,1),@p,@q),@y)"])
        before = self.begun(system)
        self.assertEqual(free_unknowns(system, before), [var("x")])
        found = self.unchanged(step, system, before, {}, HALF, "backward")
        self.assertEqual(found[var("x")], before[var("x")] + HALF * found[var("x", 1)])
        # At the time 1 x is 0, so that the rule of x cannot determine y.
        self.refused(Singular, step, system, before, {}, Ratio(1), "backward")

    def test_errors(self):
        singular = built("state x, state y", ["@x = 1", "@x' = 1"])
        self.refused(Singular, step, singular, env("time = 0"), {}, HALF, "backward")
        self.refused(TooLarge, step, built("state x, state y, input u", ["@x'' = @y", "@x = @u'''"]), {},
                     {"u": []}, HALF, "backward")
        self.refused(NotLinear, step, built("state x", ["mul(@x,@x') = div(1,0)"]), {}, {}, HALF, "trapezoid")
        pole = built("state x", ["@x' = div(1,sub(1,time))"])
        self.steps_to(pole, "@x = 1, @x' = 2")
        self.refused(ByZero, step, pole, self.begun(pole), {}, Ratio(1), "backward")
        self.refused(ByZero, step, pole, env("time = 1, initial = false, @x = 0, @x' = 0"), {}, Ratio(2), "backward")
        self.refused(NoValue, step, pole, env("initial = false, @x = 0, @x' = 0"), {}, Ratio(2), "backward")

    def test_more_or_less_than_one_solution(self):
        # Backward: x = 1 + h * x, which determines nothing if h is 1; trapezoid if it is 2.
        growing = built("state x = 1", ["@x' = @x"])
        self.refused(Singular, step, growing, self.begun(growing), {}, Ratio(1), "backward")
        self.refused(Singular, step, growing, self.begun(growing), {}, Ratio(2), "trapezoid")
        self.steps_to(growing, "@x = 3, @x' = 3", "trapezoid", "1")
        self.steps_to(growing, "@x = -1, @x' = -1", time="2")
        nothing = built("state x, discrete p = 1", ["mul(if(less(time,1),1,0),@x) = 0"])
        self.refused(Singular, step, nothing, self.begun(nothing), {}, Ratio(1), "backward")
        # No unknown is free, and the rows do not determine x before either.
        self.refused(Singular, step, nothing, env("time = 2, initial = false, @p = 1, @x = 0"), {}, Ratio(3),
                     "trapezoid")
        fewer = built("state x", ["mul(if(less(time,1),1,0),@x') = 0"])
        self.refused(Singular, step, fewer, env("time = 2, initial = false, @x = 0, @x' = 0"), {}, Ratio(3), "backward")

    def test_exact_solutions(self):
        # x' = a polynomial of the degree 1: trapezoid is exact; of the degree 0: both are.
        source = random.Random(56)
        for _ in range(50):
            a, b, c = (source.randint(-5, 5) for _ in range(3))
            system = built(f"state x = {c}", [f"@x' = add({a},mul({b},time))"])
            environment = self.begun(system)
            for k in range(1, 4):
                time = Ratio(k, 3)
                environment = step(system, environment, {}, time, "trapezoid")
                self.assertEqual(environment[var("x")], Ratio(c) + Ratio(a) * time + Ratio(b, 2) * time * time)
            constant = built(f"state x = {c}", [f"@x' = {a}"])
            for method in ("backward", "trapezoid"):
                found = step(constant, self.begun(constant), {}, Ratio(7, 5), method)
                self.assertEqual(found[var("x")], Ratio(c) + Ratio(a) * Ratio(7, 5))

    def test_the_definition(self):
        source = random.Random(560)
        seen = {"backward": 0, "trapezoid": 0, "differentiated": 0, "error": 0}
        while min(seen.values()) < 40:
            system, signals = self.drawn(source)
            method = source.choice(("backward", "trapezoid"))
            length = Ratio(source.randint(1, 4), source.randint(1, 4))
            try:
                environment = begin(system, signals, Ratio(source.randint(-1, 1)))
            except LinkworkError:
                continue
            for _ in range(3):
                time = environment[("time",)] + length
                try:
                    found = self.unchanged(step, system, environment, signals, time, method)
                except LinkworkError:
                    seen["error"] += 1
                    break
                self.check(system, environment, found, signals, length, method)
                seen[method] += 1
                seen["differentiated"] += any(times > 0 for _, times, _, _ in reduced(system))
                environment = found

    def check(self, system, before, after, signals, length, method):
        given = base(system, signals, before[("time",)] + length, False)
        columns = unknowns(system)
        self.assertEqual(sorted(map(str, after)), sorted(map(str, [*given, *columns])))
        for key in given:
            if key[0] == "pre":
                self.assertEqual(after[key], before[var(key[1])])
            elif key == var("d"):
                self.assertEqual(after[key], before[key])
            else:
                self.assertEqual(after[key], given[key])
        for _, _, left, right in reduced(system):
            self.assertEqual(evaluate(left, after), evaluate(right, after))
        for key in free_unknowns(system, before):
            slope = var(key[1], key[2] + 1)
            if method == "backward":
                expected = before[key] + length * after[slope]
            else:
                expected = before[key] + length * HALF * (before[slope] + after[slope])
            self.assertEqual(after[key], expected)

    def drawn(self, source):
        names = ["x", "y", "z"][:source.randint(1, 3)]
        variables = {"u": Variable("u", "input"), "p": Variable("p", "parameter", value=Ratio(2)),
                     "d": Variable("d", "discrete", start=Ratio(source.randint(-1, 1)))}
        variables.update({name: Variable(name, "state", start=Ratio(source.randint(-3, 3))) for name in names})
        equations = {}
        for at, name in enumerate(names):
            order = source.choice((0, 1, 1, 2))
            total = ("add", var(source.choice([name, name, source.choice(names)]), order), var(name, 0))
            for _ in range(source.randint(0, 2)):
                leaf = source.choice([var(source.choice(names), source.randint(0, order)), pre(name), ("time",),
                                      var("u"), var("d"), num(source.randint(-2, 2)),
                                      ("mul", var("p"), var(source.choice(names)))])
                total = (source.choice(("add", "sub")), total, leaf)
            equations[f"e{at}"] = (total, source.choice((num(1), var("u"), ("if", ("initial",), num(1), num(2)))))
        signals = {"u": [Ratio(source.randint(-2, 2)) for _ in range(source.randint(0, 3))]}
        return System(variables, equations, {}, {}), signals

    def test_results_share_nothing(self):
        system = built("state x = 6", ["@x' = neg(@x)"])
        before = self.begun(system)
        step(system, before, {}, HALF, "backward").clear()
        self.steps_to(system, "@x = 4, @x' = -4", start=before)


if __name__ == "__main__":
    unittest.main()
