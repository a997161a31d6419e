"""Points 61 and 62: plants, their wholes, the feed order, beginnings of all units, macro steps."""

import itertools
import random
import unittest

from building import num, shape, var
from linkwork.beginning import begin
from linkwork.coupled import begin_all, feed_order, macro_step, whole
from linkwork.derivatives import offsets
from linkwork.errors import BadSystem, ByZero, LinkworkError, NoSolution, NotLinear, Singular, TooLarge
from linkwork.ratios import Ratio
from linkwork.states import matrix
from linkwork.steps import step
from linkwork.systems import System, Variable, check
from modelling import system_texts
from solving import Unchanged, built, env, env_text, ratios

ZERO = Ratio(0)
EMPTY = built("")


def plant(units, *wires):
    """A plant; a wire is a text such as "a.u b.x"."""
    found = {}
    for text in wires:
        target, source = text.split()
        found[tuple(target.split("."))] = tuple(source.split("."))
    return (units, found)


def pump(start="", text="@x' = sub(@u,@x)"):
    """A unit with an input u and a state x."""
    return built(f"input u, state x{start}", [text])


def plain_feed_order(own):
    left = sorted(own[0])
    found = []
    while left:
        free = [unit for unit in left if not any(
            target == unit and source != unit and source in left
            for (target, _), (source, _) in own[1].items())]
        found.append(min(free, default=min(left)))
        left.remove(found[-1])
    return found


class FeedOrderTest(Unchanged, unittest.TestCase):
    def order(self, names, wires, expected):
        own = plant({name: EMPTY for name in names.split()}, *wires)
        self.assertEqual(" ".join(self.unchanged(feed_order, own)), expected)

    def test_examples(self):
        self.order("a", [], "a")
        self.order("b a c", [], "a b c")
        self.order("a b", ["a.u b.x"], "b a")
        self.order("a b c", ["a.u b.x", "b.u c.x"], "c b a")
        self.order("a b c d", ["a.u c.x", "b.u a.x"], "c a b d")
        self.order("B a A", [], "A B a")

    def test_loops(self):
        self.order("a b", ["a.u b.x", "b.u a.x"], "a b")
        self.order("a b c", ["a.u b.x", "b.u a.x", "a.v c.x"], "c a b")
        self.order("a b c", ["b.u c.x", "c.u b.x", "a.u b.x"], "a b c")
        self.order("c b a", ["a.u b.x", "b.u c.x", "c.u a.x"], "a c b")

    def test_wires_to_the_unit_itself_and_several_wires(self):
        self.order("a b", ["a.u a.x", "b.u b.x"], "a b")
        self.order("a b c", ["a.u b.x", "a.v c.x", "a.w a.x"], "b c a")
        self.order("a b", ["a.u b.x", "a.v b.x"], "b a")

    def test_all_plants_of_three_units(self):
        pairs = [(first, second) for first in "abc" for second in "abc"]
        for many in range(5):
            for chosen in itertools.combinations(pairs, many):
                own = plant({name: EMPTY for name in "bca"}, *[f"{first}.u{at} {second}.x"
                                                              for at, (first, second) in enumerate(chosen)])
                self.assertEqual(self.unchanged(feed_order, own), plain_feed_order(own))

    def test_8_units(self):
        source = random.Random(61)
        for _ in range(100):
            names = source.sample("abcdefgh", 8)
            wires = [f"{source.choice(names)}.u{at} {source.choice(names)}.x" for at in range(source.randint(0, 14))]
            own = plant({name: EMPTY for name in names}, *wires)
            self.assertEqual(feed_order(own), plain_feed_order(own))


class WholeTest(Unchanged, unittest.TestCase):
    def test_all_that_is_in_the_units(self):
        first = built("state x = 2!, state y, input u, input v, parameter p = 3, parameter? q = true, discrete d = 4,"
                      "discrete? b", {"e1": "@x' = add(@u'',@p)", "e[2]": "@y = if(@q,pre@d,pre@x)"},
                      {"i1": "@y = if(@b,time,@v)"})
        second = built("state x, input u", ["@x' = @u"], ["@x' = 0"])
        found = self.unchanged(whole, plant({"one": first, "two": second}, "one.u two.x", "two.u two.x"))
        check(found)
        self.assertEqual(system_texts(found), {
            "variables": {
                "one.x": "state start 2*", "one.y": "state", "one.u": "state", "one.v": "input",
                "one.p": "parameter 3", "one.q": "parameter? true", "one.d": "discrete start 4", "one.b": "discrete?",
                "two.x": "state", "two.u": "state"},
            "equations": {
                "one.e1": "@one.x' = add(@one.u'',@one.p)", "one.e[2]": "@one.y = if(@one.q,pre@one.d,pre@one.x)",
                "two.e1": "@two.x' = @two.u", "one.u.wire": "@one.u = @two.x", "two.u.wire": "@two.u = @two.x"},
            "initials": {"one.i1": "@one.y = if(@one.b,time,@one.v)", "two.i1": "@two.x' = 0"},
            "whens": {}})

    def test_no_wires_and_one_unit(self):
        self.assertEqual(system_texts(whole(plant({"a": EMPTY})))["variables"], {})
        self.assertEqual(system_texts(whole(plant({"a": pump()})))["variables"], {"a.u": "input", "a.x": "state"})

    def test_the_name_of_a_wire(self):
        unit = built("input u, state x", {"u.wire": "@x' = @u"})
        self.refused(BadSystem, whole, plant({"a": unit}, "a.u a.x"))
        self.refused(BadSystem, whole, plant({"a": unit, "b": pump()}, "a.u b.x"))
        self.assertEqual(sorted(whole(plant({"a": unit})).equations), ["a.u.wire"])
        self.assertEqual(sorted(whole(plant({"a": unit, "b": pump()}, "b.u a.x")).equations),
                         ["a.u.wire", "b.e1", "b.u.wire"])
        initial = built("input u, state x", ["@x' = @u"], {"u.wire": "@x = 1"})
        self.assertEqual(len(whole(plant({"a": initial}, "a.u a.x")).equations), 2)

    def test_names_at_and_beyond_80_characters(self):
        name = "x" * 77
        variable = System({name: Variable(name, "state")}, {}, {}, {})
        equation = System({}, {name: (num(1), num(1))}, {}, {})
        initial = System({}, {}, {name: (num(1), num(1))}, {})
        for system in (variable, equation, initial):
            whole(plant({"ab": system}))
            self.refused(BadSystem, whole, plant({"abc": system}))
        # An input of 73 characters has a name of 75 in the whole, and its wire one of 80.
        for long, refused in ((73, False), (74, True)):
            name = "u" * long
            unit = built(f"input {name}, state x", [f"@x' = @{name}"])
            if refused:
                self.refused(BadSystem, whole, plant({"a": unit}, f"a.{name} a.x"))
                whole(plant({"a": unit}))
            else:
                whole(plant({"a": unit}, f"a.{name} a.x"))

    def test_too_much_together(self):
        def unit(states, equations, initials):
            return System({f"x{at}": Variable(f"x{at}", "state") for at in range(states)},
                          {f"e{at}": (num(1), num(1)) for at in range(equations)},
                          {f"i{at}": (num(1), num(1)) for at in range(initials)}, {})

        self.assertEqual(len(whole(plant({"a": unit(50, 60, 40), "b": unit(50, 40, 60)})).variables), 100)
        for first, second in (((50, 0, 0), (51, 0, 0)), ((0, 60, 0), (0, 41, 0)), ((0, 0, 99), (0, 0, 2))):
            self.refused(BadSystem, whole, plant({"a": unit(*first), "b": unit(*second)}))
        wired = built("input u, input v, state x", ["@x' = add(@u,@v)"])
        self.refused(BadSystem, whole, plant({"a": unit(2, 98, 0), "b": wired}, "b.u a.x1", "b.v b.x"))
        whole(plant({"a": unit(2, 97, 0), "b": wired}, "b.u a.x1", "b.v b.x"))

    def test_results_share_nothing(self):
        own = plant({"a": pump()}, "a.u a.x")
        before = shape(list(own[0].values()))
        found = whole(own)
        for table in (found.variables, found.equations, found.initials):
            table.clear()
        self.assertEqual((shape(list(own[0].values())), len(whole(own).equations)), (before, 2))
        feed_order(own).clear()
        self.assertEqual(feed_order(own), ["a"])


class BeginAllTest(Unchanged, unittest.TestCase):
    def begins(self, own, expected, signals=None, time=ZERO):
        """The values of u and x in each unit."""
        found = self.unchanged(begin_all, own, signals or {}, time)
        values = {unit: [environment[var("u")], environment[var("x")]] for unit, environment in found.items()}
        self.assertEqual(values, {unit: ratios(text) for unit, text in expected.items()})
        return found

    def test_signals(self):
        found = self.begins(plant({"a": pump(" = 5")}), {"a": "7 5"}, {"a.u": ratios("3 2")}, Ratio(2))
        self.assertEqual(found["a"], begin(pump(" = 5"), {"u": ratios("3 2")}, Ratio(2)))

    def test_wires_from_units_that_have_begun(self):
        # a begins with u = 3, and its x is then twice its u.
        own = plant({"b": pump(" = 1", "@x = mul(2,@u)"), "a": pump(" = 1", "@x = mul(2,@u)")}, "b.u a.x")
        found = self.begins(own, {"a": "3 6", "b": "6 12"}, {"a.u": ratios("3")})
        self.assertEqual([found["b"][var("u", order)] for order in range(1, 5)], [ZERO] * 4)

    def test_wires_from_units_that_have_not_begun(self):
        loop = ["a.u b.x", "b.u a.x"]
        self.begins(plant({"a": pump(), "b": pump()}, *loop), {"a": "0 0", "b": "0 0"})
        self.begins(plant({"a": pump(" = 2"), "b": pump(" = 9")}, *loop), {"a": "9 2", "b": "2 9"})
        text = "@x = add(1,@u)"
        self.begins(plant({"a": pump(" = 2", text), "b": pump(" = 9", text)}, *loop), {"a": "9 10", "b": "10 11"})
        self.begins(plant({"a": pump("", text), "b": pump("", text)}, *loop), {"a": "0 1", "b": "1 2"})

    def test_wires_from_the_unit_itself(self):
        self.begins(plant({"a": pump(" = 4", "@x = add(1,@u)")}, "a.u a.x"), {"a": "4 5"})
        self.begins(plant({"a": pump(" = 4!")}, "a.u a.x"), {"a": "4 4"})
        self.begins(plant({"a": pump("", "@x = add(1,@u)")}, "a.u a.x"), {"a": "0 1"})

    def test_errors_in_the_feed_order(self):
        bent = pump("", "mul(@x,@x) = @u")
        none = built("input u, state x = 1!", ["@x = add(@u,2)"])
        pole = pump("", "@x = div(1,@u)")
        self.refused(NotLinear, begin_all, plant({"a": bent, "b": none}), {"a.u": [], "b.u": []}, ZERO)
        self.refused(NoSolution, begin_all, plant({"a": bent, "b": none}, "a.u b.x"), {"b.u": []}, ZERO)
        self.refused(ByZero, begin_all, plant({"a": pole}, "a.u a.x"), {}, ZERO)
        self.refused(Singular, begin_all, plant({"a": built("state x"), "b": bent}), {"b.u": []}, ZERO)

    def test_an_input_with_a_wire_is_a_constant(self):
        # Its derivatives are 0, and so the state that follows it stands still.
        unit = built("input u, state x, state y", ["@x = @u", "@y = @x'"])
        found = begin_all(plant({"a": pump(" = 3"), "b": unit}, "b.u a.x"), {"a.u": ratios("0 5")}, Ratio(1))
        self.assertEqual([found["b"][var(name)] for name in ("x", "y")], ratios("3 0"))
        self.assertEqual(found["a"][var("x", 1)], Ratio(2))


class MacroStepTest(Unchanged, unittest.TestCase):
    def begun(self, own, signals=None):
        return begin_all(own, signals or {}, ZERO)

    def steps(self, own, expected, method="backward", signals=None, length="1/2"):
        before = self.begun(own, signals)
        found = self.unchanged(macro_step, own, before, signals or {}, ratios(length)[0], method)
        values = {unit: [environment[var("u")], environment[var("x")]] for unit, environment in found.items()}
        self.assertEqual(values, {unit: ratios(text) for unit, text in expected.items()})
        return found

    def test_one_unit_and_signals(self):
        own = plant({"a": pump(" = 6")})
        found = self.steps(own, {"a": "1/2 25/6"}, signals={"a.u": ratios("0 1")})
        before = self.begun(own, {"a.u": ratios("0 1")})
        self.assertEqual(found["a"], step(pump(), before["a"], {"u": ratios("0 1")}, Ratio(1, 2), "backward"))
        self.steps(own, {"a": "1/2 37/10"}, "trapezoid", {"a.u": ratios("0 1")})

    def test_new_and_old_values(self):
        # b takes its step first, and a sees its new value.
        self.steps(plant({"a": pump(" = 0"), "b": pump(" = 6", "@x' = neg(@x)")}, "a.u b.x"),
                   {"b": "0 4", "a": "4 4/3"}, signals={"b.u": []})
        # In a loop a is the first, and sees the old value of b.
        self.steps(plant({"a": pump(" = 0"), "b": pump(" = 6")}, "a.u b.x", "b.u a.x"),
                   {"a": "6 2", "b": "2 14/3"})
        # The unit itself gives the old value.
        self.steps(plant({"a": pump(" = 6", "@x' = neg(@u)")}, "a.u a.x"), {"a": "6 3"})
        self.steps(plant({"a": pump(" = 6", "@x' = neg(@u)")}, "a.u a.x"), {"a": "6 3"}, "trapezoid")

    def test_the_method(self):
        # a: the mean of the old and the new slope, with the old and the new input.
        self.steps(plant({"a": pump(" = 0", "@x' = @u"), "b": pump(" = 6", "@x' = -4")}, "a.u b.x"),
                   {"b": "0 4", "a": "4 5/2"}, "trapezoid", {"b.u": []})

    def test_the_times(self):
        own = plant({"a": pump(" = 6"), "b": pump()}, "a.u b.x")
        environments = begin_all(own, {"b.u": ratios("0 1")}, Ratio(3))
        for at in range(1, 4):
            environments = macro_step(own, environments, {"b.u": ratios("0 1")}, Ratio(1, 3), "backward")
            for unit in ("a", "b"):
                self.assertEqual(environments[unit][("time",)], Ratio(3) + Ratio(at, 3))
                self.assertIs(environments[unit][("initial",)], False)
            self.assertEqual(environments["a"][var("u")], environments["b"][var("x")])
            self.assertEqual(environments["a"][var("u", 1)], ZERO)
            self.assertEqual(environments["b"][var("u", 1)], Ratio(1))

    def test_the_values_before_are_kept(self):
        own = plant({"a": pump(" = 6")}, "a.u a.x")
        found = macro_step(own, self.begun(own), {}, Ratio(1, 2), "backward")
        self.assertEqual(env_text(found["a"]), env_text(env(
            "time = 1/2, initial = false, @u = 6, @u' = 0, @u'' = 0, @u''' = 0, @u'''' = 0, @x = 6, @x' = 0,"
            "pre@x = 6")))

    def test_errors_in_the_feed_order(self):
        pole = built("input u, state x", ["@x' = div(1,sub(time,1))"])
        growing = built("input u, state x = 1", ["@x' = @x"])
        large = built("input u, state x, state y", ["@x'' = @y", "@x = @u'''"])
        own = plant({"a": pole, "b": growing}, "a.u b.x")
        before = self.begun(own, {"b.u": []})
        self.refused(Singular, macro_step, own, before, {"b.u": []}, Ratio(1), "backward")
        self.refused(ByZero, macro_step, plant({"a": pole, "b": growing}, "b.u a.x"), before, {"a.u": []}, Ratio(1),
                     "backward")
        self.refused(TooLarge, macro_step, plant({"a": large}), {"a": env("time = 0")}, {"a.u": []}, Ratio(1),
                     "trapezoid")

    def test_steps_of_the_whole(self):
        source = random.Random(62)
        seen = 0
        while seen < 60:
            own, signals = self.drawn(source)
            try:
                together = whole(own)
                environment = begin(together, signals, ZERO)
                environments = begin_all(own, signals, ZERO)
                matrix(together, environment)
            except LinkworkError:
                continue
            if any(max(offsets(system)[0].values()) > 0 for system in own[0].values()):
                continue
            if not self.agree(environment, environments):
                continue
            length = Ratio(source.randint(1, 3), source.randint(2, 5))
            for _ in range(3):
                try:
                    environments = self.unchanged(macro_step, own, environments, signals, length, "backward")
                except LinkworkError as error:
                    self.refused(error.__class__, step, together, environment, signals,
                                 environment[("time",)] + length, "backward")
                    break
                environment = step(together, environment, signals, environment[("time",)] + length, "backward")
                self.assertTrue(self.agree(environment, environments))
                seen += 1

    def agree(self, environment, environments):
        """Whether the states and inputs of the units have the values that they have in the whole."""
        return all(
            environment[var(f"{unit}.{key[1]}")] == own[key]
            for unit, own in environments.items() for key in own if key[0] == "var" and key[2] == 0)

    def drawn(self, source):
        """Units a, b, .. whose wires lead to later ones, and signals; only inputs themselves occur."""
        units, wires, signals = {}, {}, {}
        for unit in "abcd"[:source.randint(2, 4)]:
            variables = {name: Variable(name, "state", start=Ratio(source.randint(-2, 2)), fixed=True) for name in "xy"}
            variables.update({name: Variable(name, "input") for name in ("u", "v")[:source.randint(1, 2)]})
            leaves = [var(name) for name in variables] + [("time",), num(2)]
            equations = {}
            for name in "xy":
                if source.random() < 0.3:
                    variables[name] = Variable(name, "state")
                    leaves.remove(var(name))
                    equations[f"e{name}"] = (var(name), self.some_sum(source, leaves))
                else:
                    equations[f"e{name}"] = (var(name, 1), self.some_sum(source, leaves))
            units[unit] = System(variables, equations, {}, {})
            for name in ("u", "v"):
                if name in variables and len(units) > 1 and source.random() < 0.8:
                    wires[(unit, name)] = (source.choice(sorted(units)[:-1]), source.choice("xy"))
                elif name in variables:
                    signals[f"{unit}.{name}"] = [Ratio(source.randint(-2, 2)) for _ in range(source.randint(0, 3))]
        return (units, wires), signals

    def some_sum(self, source, leaves):
        total = source.choice(leaves)
        for _ in range(source.randint(0, 2)):
            total = ("add", total, ("mul", num(source.randint(-2, 2), 2), source.choice(leaves)))
        return total

    def test_results_share_nothing(self):
        own = plant({"a": pump(" = 6")}, "a.u a.x")
        before = self.begun(own)
        self.begun(own)["a"].clear()
        found = macro_step(own, before, {}, Ratio(1, 2), "backward")
        found["a"].clear()
        self.assertEqual(len(macro_step(own, before, {}, Ratio(1, 2), "backward")["a"]), 10)


if __name__ == "__main__":
    unittest.main()
