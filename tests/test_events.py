"""Points 57 to 59: whens that are triggered, firing, resets, times of events."""

import random
import unittest

from building import var
from drawing import truth
from linkwork.beginning import begin
from linkwork.errors import BadKind, BadReset, ByZero, LinkworkError, NotLinear, NoValue, Singular, TooLarge
from linkwork.events import fire, next_event, triggered
from linkwork.expressions import evaluate
from linkwork.kinds import parts_of
from linkwork.ratios import Ratio, is_less
from linkwork.states import free_unknowns
from linkwork.systems import System, Variable
from solving import Unchanged, built, env, env_text, key, ratios

ZERO = Ratio(0)


def conditions(*texts):
    """A system with whens w1, w2, .. that do nothing."""
    return built("state x, discrete d, discrete? b, discrete? c", ["@x = 1"], [], [text + ":" for text in texts])


class TriggeredTest(Unchanged, unittest.TestCase):
    def found(self, system, before, now):
        return " ".join(self.unchanged(triggered, system, before, now))

    def test_nothing(self):
        self.assertEqual(self.found(built("state x", ["@x = 1"]), None, (0, env("initial = true"))), "")

    def test_at_the_beginning(self):
        system = conditions("initial", "true", "less(@d,1)", "@b", "sample(0,1)", "or(initial,@c)")
        now = (0, env("initial = true, time = 0, @d = 0, @b = false, @c = true"))
        self.assertEqual(self.found(system, None, now), "w1 w5")
        self.assertEqual(self.found(system, (0, {}), now), "w1 w5")
        now[1][key("@c")] = False
        self.assertEqual(self.found(system, None, now), "w1 w5 w6")
        now[1][("time",)] = Ratio(1, 2)
        self.assertEqual(self.found(system, None, now), "w1 w6")

    def test_the_order_of_the_names(self):
        whens = {"c": "true:", "a": "initial:", "b": "initial:", "B": "initial:"}
        system = built("state x", ["@x = 1"], [], whens)
        self.assertEqual(self.found(system, None, (0, env("initial = true"))), "B a b")
        wrong = built("state x, discrete d", ["@x = 1"], [], {"b": "less(@x,1):", "a": "less(div(1,@d),1):"})
        self.refused(ByZero, triggered, wrong, None, (0, env("initial = true, @d = 0")))

    def test_initial_at_a_count_above_0(self):
        now = (3, env("initial = true, time = 0"))
        self.assertEqual(self.found(conditions("sample(0,1)", "initial", "true"), (2, {}), now), "w1 w2")

    def test_the_count_0(self):
        system = conditions("less(1,@x)", "sample(0,1)", "or(sample(0,1),less(1,@x))", "true", "and(@b,sample(0,1))")
        before = (1, env("initial = false, time = 0, @x = 0, @b = true"))
        now = (0, env("initial = false, time = 1, @x = 2, @b = true"))
        self.assertEqual(self.found(system, before, now), "w1 w2 w3 w5")
        before[1][key("@x")] = Ratio(2)
        self.assertEqual(self.found(system, before, now), "w2 w5")
        now[1][("time",)] = Ratio(1, 2)
        self.assertEqual(self.found(system, before, now), "")

    def test_greater_counts(self):
        system = conditions("less(1,@x)", "sample(0,1)", "and(@b,sample(0,1))", "not(sample(0,1))")
        before = (0, env("initial = false, time = 1, @x = 0, @b = false"))
        now = (1, env("initial = false, time = 1, @x = 2, @b = true"))
        self.assertEqual(self.found(system, before, now), "w1 w3")
        before[1][key("@b")] = True
        self.assertEqual(self.found(system, before, now), "w1")
        before[1][key("@x")] = Ratio(3, 2)
        self.assertEqual(self.found(system, before, now), "")

    def test_samples(self):
        system = conditions("sample(1/2,1/3)")
        before = (1, env("initial = false, time = 0"))
        for time, expected in (("1/2", "w1"), ("5/6", "w1"), ("1/6", ""), ("3/2", "w1"), ("2/3", ""), ("-1/6", "")):
            self.assertEqual(self.found(system, before, (0, env(f"initial = false, time = {time}"))), expected)
            self.assertEqual(self.found(system, None, (0, env(f"initial = true, time = {time}"))), expected)

    def test_in_the_place_of_a_sample_there_is_false(self):
        # Before, "not sample" was true although the time before was one of the sample.
        system = conditions("not(sample(0,1))", "if(sample(1/2,1),true,@b)")
        before = (1, env("initial = false, time = 0, @b = false"))
        self.assertEqual(self.found(system, before, (0, env("initial = false, time = 1/2, @b = false"))), "w2")
        # No time is needed before where a sample stands alone.
        self.assertEqual(self.found(conditions("sample(0,1)"), (0, {}), (0, env("initial = false, time = 1"))), "w1")
        self.refused(NoValue, triggered, conditions("sample(0,1)"), (0, {}), (1, env("initial = false, time = 1")))

    def test_before_is_asked_only_if_the_condition_is_true_now(self):
        system = conditions("less(0,@d)")
        self.assertEqual(self.found(system, (0, {}), (0, env("initial = false, @d = 0"))), "")
        self.assertEqual(self.found(system, (0, {}), (2, env("initial = false, @d = 0"))), "")
        self.assertEqual(self.found(system, None, (0, env("@d = 0"))), "")
        self.refused(NoValue, triggered, system, (0, {}), (0, env("initial = false, @d = 1")))
        self.refused(NoValue, triggered, system, (0, {}), (1, env("initial = false, @d = 1")))
        self.refused(ByZero, triggered, conditions("less(0,div(1,@d))"), (0, env("@d = 0")),
                     (0, env("initial = false, @d = 1")))
        self.refused(ByZero, triggered, conditions("less(0,div(1,if(initial,1,0)))"), None, (0, env("initial = true")))

    def test_the_first_error(self):
        system = conditions("less(0,div(1,@d))", "less(@x,0)")
        self.refused(ByZero, triggered, system, None, (0, env("initial = true, @d = 0")))
        self.refused(NoValue, triggered, system, None, (0, env("initial = true, @d = -1")))
        turned = conditions("less(@x,0)", "less(0,div(1,@d))")
        self.refused(NoValue, triggered, turned, None, (0, env("initial = true, @d = 0")))
        self.refused(BadKind, triggered, conditions("@b"), None, (0, env("initial = true, @b = 1")))
        # The first when is asked about before, and then the second one about now.
        both = conditions("@b", "less(0,div(1,@d))")
        self.refused(NoValue, triggered, both, (0, {}), (0, env("initial = false, @b = true, @d = 0")))
        self.refused(ByZero, triggered, both, (0, {}), (0, env("initial = false, @b = false, @d = 0")))

    def test_the_definition(self):
        source = random.Random(57)
        variables = {"x": Variable("x", "state"), "y": Variable("y", "state"), "u": Variable("u", "input"),
                     "p": Variable("p", "parameter", value=ZERO), "n": Variable("n", "discrete"),
                     "b": Variable("b", "discrete", truth=True)}
        seen = {"triggered": 0, "not": 0, "error": 0}
        while min(seen.values()) < 150:
            system = System(variables, {}, {}, {"a": (truth(source, 4), []), "b": (truth(source, 4), [])})
            before, now = self.instant(source), self.instant(source)
            try:
                expected = [name for name in ("a", "b") if self.is_triggered(system.whens[name][0], before, now)]
            except LinkworkError as error:
                seen["error"] += 1
                self.refused(error.__class__, triggered, system, before, now)
                continue
            seen["triggered"] += len(expected)
            seen["not"] += 2 - len(expected)
            self.assertEqual(self.unchanged(triggered, system, before, now), expected)

    def instant(self, source):
        found = env("@x = 1, @y = 1, @x' = 1, @u'' = 1, @p = 1, @n = 1, pre@x = 1, pre@n = 1, time = 1")
        found = {item: Ratio(source.randint(-1, 2), source.randint(1, 2)) for item in found if source.random() < 0.97}
        found.update({item: source.random() < 0.5 for item in env("@b = true, pre@b = true, initial = true")})
        return (source.choice((0, 0, 1, 2)), found)

    def is_triggered(self, condition, before, now):
        if not evaluate(condition, now[1]):
            return False
        if now[1][("initial",)]:
            return not evaluate(self.without(condition), {**now[1], ("initial",): False})
        return not evaluate(self.without(condition) if now[0] == 0 else condition, before[1])

    def without(self, expression):
        if expression[0] == "sample":
            return ("truth", False)
        parts = [self.without(part) for part in parts_of(expression)]
        return (expression[0], *parts) if parts else expression

    def test_results_share_nothing(self):
        system = conditions("true")
        now = (0, env("initial = false"))
        before = (0, {})
        self.assertEqual(triggered(conditions("initial"), None, (0, env("initial = true"))), ["w1"])
        self.assertEqual(triggered(system, before, now), [])
        triggered(conditions("initial"), None, (0, env("initial = true"))).clear()
        self.assertEqual(triggered(conditions("initial"), None, (0, env("initial = true"))), ["w1"])


class FireTest(Unchanged, unittest.TestCase):
    FALL = ["@h' = @v", "@v' = -10"]

    def fires(self, system, environment, names, expected, count=0):
        """The values at the instant after one that has these values."""
        found = self.unchanged(fire, system, (count, env(environment)), names.split())
        self.assertEqual((found[0], env_text(found[1])), (count + 1, env_text(env(expected))))

    def test_no_whens(self):
        system = built("state x, input u, parameter p = 1, discrete d, discrete? b", ["@x' = if(initial,1,@u)"])
        self.fires(system, "time = 5, initial = true, @x = 3, @x' = 1, pre@x = 0, @p = 8, @d = 2, pre@d = 7, @b = true,"
                           "pre@b = false, @u = 4, @u' = 3, @u'' = 2, @u''' = 1, @u'''' = 0", "",
                   "time = 5, initial = false, @x = 3, @x' = 4, pre@x = 3, @p = 8, @d = 2, pre@d = 2, @b = true,"
                   "pre@b = true, @u = 4, @u' = 3, @u'' = 2, @u''' = 1, @u'''' = 0", 6)
        self.fires(built(""), "time = 1, initial = false", "", "time = 1, initial = false", 3)

    def test_assignments_that_read_each_other(self):
        system = built("state x, discrete d, discrete e, discrete? b", ["@x = mul(2,@d)"], [], [
            "true: d := add(@e,1); b := not(@b)", "true: e := add(@d,add(pre@d,@x))"])
        before = "time = 0, initial = false, @x = 10, pre@x = 1, @d = 5, pre@d = 3, @e = 7, pre@e = 7, @b = false,"
        self.fires(system, before + "pre@b = false", "w1 w2",
                   "time = 0, initial = false, @x = 16, pre@x = 10, @d = 8, pre@d = 5, @e = 18, pre@e = 7, @b = true,"
                   "pre@b = false")
        self.fires(system, before + "pre@b = true", "w2",
                   "time = 0, initial = false, @x = 10, pre@x = 10, @d = 5, pre@d = 5, @e = 18, pre@e = 7, @b = false,"
                   "pre@b = false")

    def test_resets(self):
        system = built("state h, state v, discrete n", self.FALL, [], [
            "true: reset v := mul(-1/2,@v); reset h := 0; n := add(@n,1)"])
        self.fires(system, "time = 1, initial = false, @h = -1/4, @h' = -4, @v = -4, @v' = -10, pre@h = 9, pre@v = 9,"
                           "@n = 2, pre@n = 2", "w1",
                   "time = 1, initial = false, @h = 0, @h' = 2, @v = 2, @v' = -10, pre@h = -1/4, pre@v = -4, @n = 3,"
                   "pre@n = 2")

    def test_a_reset_makes_a_state_free(self):
        # Without a reset x is free, and y follows from it.
        system = built("state x, state y, state z", ["add(@x',@y') = 1", "@x = mul(2,@y)", "@z = add(@x,@y)"], [], [
            "true: reset y := 5", "true: reset x := add(@y,7)", "true: reset z := 4"])
        before = ("time = 1, initial = false, @x = 2, @x' = 2/3, @y = 1, @y' = 1/3, @z = 3, pre@x = 2, pre@y = 1,"
                  "pre@z = 3")
        after = "time = 1, initial = false, @x' = 2/3, @y' = 1/3, pre@x = 2, pre@y = 1, pre@z = 3,"
        self.fires(system, before, "", after + "@x = 2, @y = 1, @z = 3")
        self.fires(system, before, "w1", after + "@x = 10, @y = 5, @z = 15")
        self.fires(system, before, "w2", after + "@x = 8, @y = 4, @z = 12")
        # z is no candidate, and x and y cannot both be free.
        for names in (["w3"], ["w1", "w3"], ["w1", "w2"]):
            self.refused(BadReset, fire, system, (0, env(before)), names)

    def test_resets_of_differentiated_states(self):
        system = built("state x, state y, state f", ["@x'' = @f", "@y'' = sub(1,@f)", "@x = mul(3,@y)"], [], [
            "true: reset y := 2", "true: reset x := 6; reset f := 1"])
        before = env("time = 0, initial = false, @x = 3, @x' = 6, @x'' = 3/4, @y = 1, @y' = 2, @y'' = 1/4, @f = 3/4,"
                     "pre@x = 0, pre@y = 0, pre@f = 0")
        self.assertEqual(free_unknowns(system, before), [var("x"), var("x", 1)])
        found = self.unchanged(fire, system, (0, before), ["w1"])[1]
        self.assertEqual([found[var(name, order)] for name in "xy" for order in (0, 1, 2)],
                         ratios("6 6 3/4 2 2 1/4"))
        self.refused(BadReset, fire, system, (0, before), ["w2"])

    def test_one_state_by_two_acts(self):
        system = built("state x", ["@x' = 1"], [], ["true: reset x := 1", "true: reset x := 1"])
        before = env("time = 0, initial = false, @x = 0, @x' = 1, pre@x = 0")
        self.assertEqual(self.unchanged(fire, system, (0, before), ["w2"])[1][var("x")], Ratio(1))
        self.refused(BadReset, fire, system, (0, before), ["w1", "w2"])

    def test_what_is_free_is_decided_by_the_new_values(self):
        system = built("state x, state y, discrete d", ["add(@x',@y') = 1", "@x = mul(@d,@y)"], [], [
            "true: d := 0", "true: reset x := 0", "true: reset y := 9"])
        before = ("time = 1, initial = false, @x = 2, @x' = 2/3, @y = 1, @y' = 1/3, @d = 2, pre@d = 2, pre@x = 2,"
                  "pre@y = 1")
        after = "time = 1, initial = false, @x = 0, @x' = 0, @y' = 1, @d = 0, pre@d = 2, pre@x = 2, pre@y = 1,"
        self.fires(system, before, "w1", after + "@y = 1")
        self.fires(system, before, "w1 w3", after + "@y = 9")
        self.refused(BadReset, fire, system, (0, env(before)), ["w1", "w2"])
        self.assertEqual(self.unchanged(fire, system, (0, env(before)), ["w2"])[1][var("y")], ZERO)

    def test_errors_in_their_order(self):
        # The acts go before the system, even one that is singular, and are evaluated act by act.
        before = (0, env("time = 0, initial = false, @x = 1, @d = 0"))
        singular = built("state x, discrete d", [], [], [
            "true: d := div(1,@d); reset x := pre@x", "true: reset x := pre@x"])
        self.refused(ByZero, fire, singular, before, ["w1"])
        self.refused(NoValue, fire, singular, before, ["w2"])
        self.refused(ByZero, fire, singular, before, ["w1", "w2"])
        self.refused(Singular, fire, singular, before, [])
        large = built("state x, state y, input u, discrete d", ["@x'' = @y", "@x = @u'''"], [], ["true: d := @x"])
        self.refused(NoValue, fire, large, (0, env("time = 0")), ["w1"])
        complete = env("time = 0, initial = false, @x = 0, @x' = 0, @y = 0, @u = 0, @u' = 0, @u'' = 0, @u''' = 0,"
                       "@u'''' = 0, @d = 0, pre@d = 0, pre@x = 0, pre@y = 0")
        self.refused(TooLarge, fire, large, (0, complete), ["w1"])
        bent = built("state x, discrete d", ["mul(@x,@x) = @d"], [], ["true: d := 1; reset x := 1"])
        self.refused(NotLinear, fire, bent, before, ["w1"])
        # The rows at the new values go before resets that are bad.
        pole = built("state x, discrete d", ["@x = div(1,@d)"], [], [
            "true: d := 0; reset x := 1", "true: reset x := 1"])
        start = (0, env("time = 0, initial = false, @x = 1, @d = 1"))
        self.refused(ByZero, fire, pole, start, ["w1"])
        self.refused(BadReset, fire, pole, start, ["w2"])
        open_end = built("state x, discrete d", ["mul(@d,@x') = 0"], [], ["true: d := 0; reset x := 1"])
        self.refused(Singular, fire, open_end, (0, env("time = 0, initial = false, @x = 1, @x' = 0, @d = 1")), ["w1"])

    def test_rows_that_do_not_determine_the_others(self):
        system = built("state x, discrete d", ["mul(@d,@x) = 0"], [], ["true: d := 0", "true: reset x := 1"])
        now = (0, env("time = 0, initial = false, @x = 0, @d = 1"))
        self.refused(Singular, fire, system, now, ["w1"])
        self.refused(BadReset, fire, system, now, ["w1", "w2"])

    def test_values_of_the_wrong_kind(self):
        system = built("state x, discrete d, discrete? b", ["@x' = 1"], [], [
            "true: reset x := @d", "true: d := @d", "true: b := @b"])
        now = (0, env("time = 0, initial = false, @x = 0, @x' = 1, @d = true, @b = 1"))
        for name in ("w1", "w2", "w3"):
            self.refused(BadKind, fire, system, now, [name])

    def test_after_a_beginning(self):
        system = built("state x = 4, input u", ["@x' = @u"], [], ["true: reset x := mul(@x,@u)"])
        environment = begin(system, {"u": ratios("3 1")}, Ratio(2))
        found = fire(system, (0, environment), ["w1"])
        self.assertEqual((found[0], found[1][var("x")], found[1][("initial",)]), (1, Ratio(20), False))
        self.assertEqual(found[1][var("x", 1)], Ratio(5))
        found[1].clear()
        self.assertEqual(len(fire(system, (0, environment), ["w1"])[1]), 10)


class NextEventTest(Unchanged, unittest.TestCase):
    def next_is(self, texts, time, expected):
        system = built("state x, discrete d, discrete? b", ["@x = if(less(time,1/9),1,2)"], [], texts)
        found = self.unchanged(next_event, system, ratios(time)[0])
        self.assertEqual(found, ratios(expected)[0] if expected else None)

    def test_none(self):
        self.next_is([], "0", None)
        self.next_is(["true:", "less(@x,1):", "same(time,1):", "less(time,@x):", "less(time,neg(1)):",
                      "less(add(time,1),2):", "less(time,add(1,1)):", "less(1,2):", "less(time,time):"], "0", None)

    def test_comparisons_on_either_side(self):
        for text in ("less(time,3)", "less(3,time)", "atmost(time,3)", "atmost(3,time)"):
            self.next_is([text + ":"], "2", "3")
            self.next_is([text + ":"], "3", None)
            self.next_is([text + ":"], "7/2", None)
        self.next_is(["less(time,-3/2):"], "-2", "-3/2")

    def test_samples(self):
        for time, expected in (("0", "1"), ("1/2", "1"), ("1", "3/2"), ("5/4", "3/2"), ("3/2", "2"), ("-7", "1"),
                               ("10", "21/2")):
            self.next_is(["sample(1,1/2):"], time, expected)
        self.next_is(["sample(-5,2/3):"], "0", "1/3")
        self.next_is(["sample(-5,2/3):"], "-5", "-13/3")

    def test_inside_of_other_words(self):
        self.next_is(["not(and(@b,or(less(time,5),@b))):"], "0", "5")
        self.next_is(["if(less(time,9),sample(7,1),@b):"], "0", "7")
        self.next_is(["if(less(time,9),sample(7,1),@b):"], "17/2", "9")
        self.next_is(["less(if(atmost(4,time),1,2),@x):"], "0", "4")
        self.next_is(["same(less(time,2),@b):"], "0", "2")
        self.next_is(["less(time,if(sample(6,1),1,2)):"], "0", "6")

    def test_the_least_of_all(self):
        texts = ["less(time,5):", "or(less(3,time),less(time,8)):", "sample(4,4):"]
        for time, expected in (("0", "3"), ("3", "4"), ("4", "5"), ("5", "8"), ("8", "12"), ("15", "16")):
            self.next_is(texts, time, expected)

    def test_acts_and_equations_do_not_count(self):
        self.next_is(["true: d := if(less(time,4),1,2); b := sample(0,1)"], "0", None)

    def test_the_definition(self):
        source = random.Random(59)
        for _ in range(200):
            first, period = Ratio(source.randint(-9, 9), source.randint(1, 4)), Ratio(source.randint(1, 9), 4)
            time = Ratio(source.randint(-20, 20), source.randint(1, 4))
            expected = first
            while not is_less(time, expected):
                expected = expected + period
            system = System({}, {}, {}, {"w": (("not", ("sample", first, period)), [])})
            self.assertEqual(next_event(system, time), expected)


if __name__ == "__main__":
    unittest.main()
