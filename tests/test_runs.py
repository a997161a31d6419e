"""Points 59 and 60: runs, and what holds at each of their instants."""

import time
import unittest

from building import shape, var
from linkwork.derivatives import reduced
from linkwork.errors import (
    BadReset, ByZero, LinkworkError, NoSolution, NotLinear, NoValue, Singular, TooLarge, TooMany,
)
from linkwork.events import MOST_INSTANTS, MOST_ROUNDS, run
from linkwork.expressions import read_expression
from linkwork.ratios import ratio_text
from running import assert_that_it_holds, models, plain_run
from solving import Unchanged, built, ratios


def plan(text):
    start, end, length, *method = text.split()
    return (*ratios(f"{start} {end} {length}"), method[0] if method else "backward")


class RunTest(Unchanged, unittest.TestCase):
    def runs(self, system, text, keys, expected, signals=None):
        """The count, and the values of some keys, at each instant."""
        found = self.unchanged(run, system, signals or {}, plan(text))
        keys = [read_expression(part) for part in keys.split()]
        lines = [[str(count), *[ratio_text(environment[key]) for key in keys]] for count, environment in found]
        self.assertEqual([" ".join(line) for line in lines], expected)
        assert_that_it_holds(self, system, found)
        return found

    def fails(self, error, system, text="0 2 1", signals=None):
        self.refused(error, run, system, signals or {}, plan(text))

    def test_without_events(self):
        falling = built("state x = 6", ["@x' = neg(@x)"])
        self.runs(falling, "0 1 1/2", "time @x", ["0 0 6", "1 0 6", "0 1/2 4", "0 1 8/3"])
        self.runs(falling, "0 1 1/2 trapezoid", "time @x", ["0 0 6", "1 0 6", "0 1/2 18/5", "0 1 54/25"])

    def test_a_start_that_is_the_end(self):
        system = built("state x = 6, discrete n", ["@x' = 1"], [], ["atmost(0,time): n := add(@n,1)",
                                                                   "same(@n,1): reset x := 0"])
        self.runs(built("state x = 6", ["@x' = 1"]), "3 3 1", "time initial", ["0 3 true", "1 3 false"])
        self.runs(system, "0 0 1", "@n @x", ["0 0 6", "1 0 6"])
        self.runs(built("discrete n", [], [], ["initial: n := add(@n,1)"]), "0 0 1", "@n", ["0 0", "1 1"])

    def test_a_length_greater_than_the_run(self):
        self.runs(built("state x = 6", ["@x' = 1"]), "-1 1/2 7", "time @x", ["0 -1 6", "1 -1 6", "0 1/2 15/2"])

    def test_the_last_step_is_cut(self):
        self.runs(built("state x", ["@x' = 1"]), "1 5/2 1", "time", ["0 1", "1 1", "0 2", "0 5/2"])
        self.runs(built(""), "1/3 1 1/2", "time", ["0 1/3", "1 1/3", "0 5/6", "0 1"])

    def test_events_between_and_at_the_times_of_steps(self):
        system = built("state x, discrete n", ["@x' = @n"], [], [
            "less(1/2,time): n := 9", "atmost(2,time): reset x := 0"])
        self.runs(system, "0 3 1", "time @n @x", [
            "0 0 0 0", "1 0 0 0", "0 1/2 0 0", "0 1 0 0", "1 1 9 0", "0 2 9 9", "1 2 9 0", "0 3 9 9"])

    def test_steps_go_on_from_the_start_behind_an_event(self):
        system = built("state x", ["@x' = 1"], [], ["less(time,5/4):"])
        self.runs(system, "1/2 5/2 1/2", "time @x", [
            "0 1/2 0", "1 1/2 0", "0 1 1/2", "0 5/4 3/4", "0 3/2 1", "0 2 3/2", "0 5/2 2"])

    def test_events_at_the_end(self):
        system = built("discrete n", [], [], ["atmost(1,time): n := add(@n,1)", "sample(1,1): "])
        self.runs(system, "0 1 2", "time @n", ["0 0 0", "1 0 0", "0 1 0", "1 1 1"])

    def test_whens_at_the_beginning(self):
        system = built("state x = 2!, discrete n, discrete? b", ["@x' = @n"], [], [
            "initial: n := 3", "and(same(@n,3),not(initial)): b := true; reset x := add(@x,@n)", "less(0,@x):"])
        self.runs(system, "0 1 1", "time @n @b @x @x'", [
            "0 0 0 false 2 0", "1 0 3 false 2 3", "2 0 3 true 5 3", "0 1 3 true 8 3"])

    def test_what_is_true_at_the_beginning_is_not_triggered(self):
        self.runs(built("discrete n", [], [], ["atmost(0,time): n := 1"]), "0 1 1", "@n", ["0 0", "1 0", "0 0"])
        self.runs(built("discrete n", [], [], ["sample(0,1): n := add(@n,1)"]), "0 1 1/2", "@n",
                  ["0 0", "1 1", "0 1", "0 1", "1 2"])

    def test_a_bouncing_ball(self):
        system = built("state h = 1!, state v = 0!, discrete n", ["@h' = @v", "@v' = -10"], [], [
            "atmost(@h,0): reset h := 0; reset v := mul(-1/2,@v); n := add(@n,1)"])
        self.runs(system, "0 6/5 2/5 trapezoid", "time @h @v @n", [
            "0 0 1 0 0", "1 0 1 0 0", "0 2/5 1/5 -4 0", "0 4/5 -11/5 -8 0", "1 4/5 0 4 1", "0 6/5 4/5 0 1"])

    def test_a_chain_of_whens_at_one_time(self):
        system = built("discrete a, discrete b, discrete c", [], [], [
            "atmost(1,time): a := 1", "same(@a,1): b := 2", "same(@b,2): c := pre@b"])
        self.runs(system, "0 1 1", "@a @b @c", ["0 0 0 0", "1 0 0 0", "0 0 0 0", "1 1 0 0", "2 1 2 0", "3 1 2 0"])

    def test_signals_and_differentiated_equations(self):
        system = built("state x, state y, input u", ["@x' = @y", "@x = @u"])
        self.runs(system, "0 2 1", "@u @x @y @x'", ["0 1 1 0 0", "1 1 1 0 0", "0 2 2 2 2", "0 5 5 4 4"],
                  {"u": ratios("1 0 1")})

    def test_discrete_values_that_choose_equations(self):
        # The friction holds the state as long as the discrete variable says so.
        system = built("state x = 1, discrete? b = true", ["if(@b,@x',sub(@x',2)) = 0"], [], [
            "less(1,time): b := false"])
        self.runs(system, "0 2 1/2", "time @b @x", [
            "0 0 true 1", "1 0 true 1", "0 1/2 true 1", "0 1 true 1", "0 3/2 true 1", "1 3/2 false 1", "0 2 false 2"])

    def test_20_and_21_instants_of_one_time(self):
        # Two whens that trigger each other by turns; what was true before does not trigger.
        def turning(most):
            return built("discrete n, discrete m", [], [], [
                f"and(atmost(1,time),and(atmost(@n,@m),less(@n,{most}))): n := add(@n,1)",
                f"and(less(@m,@n),less(@m,{most})): m := add(@m,1)"])

        found = self.unchanged(run, turning(10), {}, plan("0 2 1"))
        self.assertEqual([count for count, _ in found], [0, 1, *range(21), 0])
        assert_that_it_holds(self, turning(10), found)
        self.fails(TooMany, turning(11), "0 1 1")
        self.fails(TooMany, turning(11), "0 2 1")

    def test_20_and_21_instants_at_the_beginning(self):
        def turning(most):
            return built("discrete n, discrete m", [], [], [
                f"and(atmost(@n,@m),and(less(@n,{most}),or(initial,less(0,@m)))): n := add(@n,1)",
                f"and(less(@m,@n),less(@m,{most})): m := add(@m,1)"])

        self.assertEqual([count for count, _ in run(turning(10), {}, plan("0 0 1"))], list(range(21)))
        self.assertEqual(MOST_ROUNDS, 20)
        self.fails(TooMany, turning(11), "0 0 1")

    def test_200_and_201_instants(self):
        system = built("state x", ["@x' = 1"])
        self.assertEqual(len(self.unchanged(run, system, {}, plan("0 198 1"))), 200)
        self.assertEqual(MOST_INSTANTS, 200)
        self.fails(TooMany, system, "0 199 1")
        self.fails(TooMany, system, "0 397/2 1")
        # The instant at the end, and then one that is triggered there.
        event = built("discrete n", [], [], ["atmost(198,time): n := 1"])
        self.fails(TooMany, event, "0 198 1")
        self.assertEqual(len(run(built("discrete n", [], [], ["atmost(197,time): n := 1"]), {}, plan("0 197 1"))), 200)

    def test_too_many_goes_before_the_errors_of_the_instant(self):
        self.fails(TooMany, built("state x", ["@x' = div(1,sub(199,time))"]), "0 300 1")
        self.fails(ByZero, built("state x", ["@x' = div(1,sub(198,time))"]), "0 300 1")
        self.fails(ByZero, built("discrete n", [], [], ["less(div(1,sub(198,time)),-5):"]), "0 300 1")

    def test_each_error_where_it_is_met_first(self):
        self.fails(Singular, built("state x, state y", ["@x = 1"]))
        self.fails(TooLarge, built("state x, state y, input u", ["@x'' = @y", "@x = @u'''"]), signals={"u": []})
        self.fails(NotLinear, built("state x", ["mul(@x,@x) = 4"]))
        self.fails(NoSolution, built("state x = 1!", ["@x = 2"]))
        self.fails(NoValue, built("state x", ["@x' = 1"], [], ["less(@x'',0):"]))
        self.fails(ByZero, built("state x", ["@x' = 1"], [], ["less(div(1,sub(time,1)),0):"]))
        self.fails(ByZero, built("discrete n", [], [], ["initial: n := div(1,@n)"]))
        self.fails(BadReset, built("state x", ["@x = time"], [], ["atmost(1,time): reset x := 1"]))
        self.fails(BadReset, built("state x", ["@x' = 1"], [], ["initial: reset x := 1", "less(@x,1):",
                                                               "sample(0,1): reset x := 1"]))
        # The second instant is not initial, and so the rows may fail there.
        self.fails(ByZero, built("state x", ["@x = div(1,if(initial,1,0))"]))
        self.fails(Singular, built("state x = 1", ["@x' = @x"]))
        self.fails(Singular, built("state x, discrete d = 1", ["mul(@d,@x') = 1"], [], ["less(1,time): d := 0"]),
                   "0 3 1")
        # A condition that was true before is asked about only at an instant at which it is true.
        self.fails(ByZero, built("", [], [], ["atmost(0,div(1,sub(2,time))):"]), "0 3 1")

    def test_the_words_of_point_59(self):
        seen = {"run": 0, "error": 0, "fired": 0, "differentiated": 0}
        for system, signals, own in models(590, 500):
            try:
                expected = plain_run(system, signals, own)
            except LinkworkError as error:
                seen["error"] += 1
                self.refused(error.__class__, run, system, signals, own)
                continue
            found = self.unchanged(run, system, signals, own)
            self.assertEqual(found, expected)
            assert_that_it_holds(self, system, found)
            seen["run"] += 1
            seen["fired"] += any(count > 0 for count, _ in found[2:])
            seen["differentiated"] += any(times > 0 for _, times, _, _ in reduced(system))
        self.assertGreater(min(seen.values()), 20, seen)

    def test_the_same_run_again(self):
        system = built("state h = 1!, state v = 0!", ["@h' = @v", "@v' = -10"], [], [
            "atmost(@h,0): reset h := 0; reset v := mul(-1/2,@v)"])
        first = run(system, {}, plan("0 2 1/10"))
        before = shape(first)
        second = run(system, {}, plan("0 2 1/10"))
        self.assertEqual(shape(second), before)
        for _, environment in first:
            environment.clear()
        first.clear()
        self.assertEqual((shape(second), shape(run(system, {}, plan("0 2 1/10")))), (before, before))

    def test_in_good_time(self):
        started = time.time()
        names = [f"x{at}" for at in range(8)]
        equations = [f"@{name}' = sub(mul({at},@{names[at - 1]}),mul(3,@{name}))" for at, name in enumerate(names)]
        system = built(", ".join(f"state {name} = {at}" for at, name in enumerate(names)), equations, [], [
            "sample(0,1/7): reset x0 := add(@x0,1)"])
        found = run(system, {}, plan("0 3 1/30 trapezoid"))
        self.assertGreater(len(found), 120)
        self.assertLess(time.time() - started, 60)
        self.assertIn(var("x7", 1), found[-1][1])


if __name__ == "__main__":
    unittest.main()
