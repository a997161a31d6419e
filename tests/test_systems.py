"""Points 7 and 8: Variables and Systems, what a good system is, residuals, merging."""

import unittest

from building import FALSE, INITIAL, TIME, TRUE, containers, num, pre, shape, states, system, tower, var, wide
from linkwork.errors import BadKind, BadSystem, ByZero, NoValue
from linkwork.ratios import Ratio
from linkwork.systems import System, Variable, check, holds, merged, residuals

ONE = num(1)
ALWAYS = (TRUE, [])


def few(**changes):
    """A small good system of all kinds of variables, with some parts changed."""
    parts = {
        "variables": {
            "x": Variable("x", "state"), "y": Variable("y", "state", start=Ratio(1), fixed=True),
            "d": Variable("d", "discrete", start=Ratio(2)),
            "b": Variable("b", "discrete", truth=True, start=False, fixed=True),
            "p": Variable("p", "parameter", value=Ratio(3)), "q": Variable("q", "parameter", truth=True, value=True),
            "u": Variable("u", "input"),
        },
        "equations": {"e1": (var("x", 1), ("mul", var("p"), var("u", 2))), "e2": (var("y"), pre("d"))},
        "initials": {"i1": (var("x"), ("if", var("q"), ONE, num(2)))},
        "whens": {"w1": (("less", pre("x"), TIME), [("assign", "d", var("x")), ("assign", "b", ("not", pre("b"))),
                                                    ("reset", "x", var("d"))])},
    }
    parts.update(changes)
    return System(**parts)


def with_variable(variable):
    """The small system with one more variable, under its own name."""
    return few(variables={**few().variables, variable.name: variable})


def with_equation(left, right, section="equations"):
    return few(**{section: {"e": (left, right)}})


def with_when(condition, acts):
    return few(whens={"w": (condition, acts)})


class ClassTest(unittest.TestCase):
    def test_fields_of_variables(self):
        variable = Variable("x", "state")
        self.assertEqual(vars(variable), {
            "name": "x", "kind": "state", "truth": False, "value": None, "start": None, "fixed": False})
        variable = Variable(name="d", kind="discrete", truth=True, value=None, start=True, fixed=True)
        self.assertEqual((variable.truth, variable.start, variable.fixed), (True, True, True))
        self.assertEqual(Variable("p", "parameter", False, Ratio(1, 2)).value, Ratio(1, 2))

    def test_a_system_copies_what_it_is_given(self):
        acts = [("reset", "x", ONE)]
        given = [states("x"), {"e": (var("x"), ONE)}, {"i": (var("x"), ONE)}, {"w": (TRUE, acts)}]
        made = System(*given)
        kept = shape(made)
        self.assertEqual(made.whens, {"w": (TRUE, [("reset", "x", ONE)])})
        for part in given:
            part.clear()
        acts.append("more")
        self.assertEqual(shape(made), kept)

    def test_a_system_changes_nothing(self):
        given = [states("x"), {"e": (var("x"), ONE)}, {}, {"w": (TRUE, [("reset", "x", ONE)])}]
        before = shape(given)
        System(*given)
        self.assertEqual(shape(given), before)


class CheckTest(unittest.TestCase):
    def good(self, given):
        before = shape(given)
        self.assertIsNone(check(given))
        self.assertEqual(shape(given), before)

    def bad(self, given):
        before = shape(given)
        with self.assertRaises(BadSystem):
            check(given)
        self.assertEqual(shape(given), before)


class NameTest(CheckTest):
    def test_a_small_system_and_an_empty_one(self):
        self.good(few())
        self.good(system())

    def test_names(self):
        for name, is_good in [("a" * 80, True), ("a.b[1]_", True), ("a" * 81, False), ("", False), ("1a", False),
                              ("a b", False), ("\u00e4", False), (1, False), (None, False), (("a",), False)]:
            checked = self.good if is_good else self.bad
            checked(system(variables={name: Variable(name, "state")}))
            checked(system(equations={name: (ONE, ONE)}))
            checked(system(initials={name: (ONE, ONE)}))
            checked(system(whens={name: ALWAYS}))

    def test_each_variable_has_the_name_that_is_its_key(self):
        self.bad(system(variables={"x": Variable("y", "state")}))
        self.bad(system(variables={"x": Variable("X", "state")}))

    def test_variables_are_variables(self):
        for wrong in (None, "state", ("x", "state"), Ratio(1)):
            self.bad(system(variables={"x": wrong}))


class VariableTest(CheckTest):
    def check_variable(self, is_good, *given, **more):
        (self.good if is_good else self.bad)(with_variable(Variable("z", *given, **more)))

    def test_kinds(self):
        for kind in ("state", "discrete", "input"):
            self.check_variable(True, kind)
        for kind in ("State", "", None, "flow", ["state"]):
            self.check_variable(False, kind)

    def test_a_value_exactly_if_it_is_a_parameter(self):
        self.check_variable(True, "parameter", value=Ratio(1))
        self.check_variable(False, "parameter")
        for kind in ("state", "discrete", "input"):
            self.check_variable(False, kind, value=Ratio(1))

    def test_values_are_truths_exactly_if_truth_says_so(self):
        self.check_variable(True, "parameter", truth=True, value=False)
        self.check_variable(False, "parameter", truth=True, value=Ratio(1))
        self.check_variable(False, "parameter", truth=False, value=True)
        for wrong in (1, "1", 0, [Ratio(1)], ONE):
            self.check_variable(False, "parameter", value=wrong)
            self.check_variable(False, "parameter", truth=True, value=wrong)

    def test_starts_are_truths_exactly_if_truth_says_so(self):
        self.check_variable(True, "discrete", truth=True, start=False)
        self.check_variable(True, "discrete", start=Ratio(0))
        self.check_variable(True, "state", start=Ratio(0))
        self.check_variable(False, "discrete", truth=True, start=Ratio(0))
        self.check_variable(False, "discrete", start=False)
        self.check_variable(False, "state", start=True)
        for wrong in (0, "0", TRUE):
            self.check_variable(False, "state", start=wrong)

    def test_truth_only_for_discrete_variables_and_parameters(self):
        self.check_variable(True, "discrete", truth=True)
        self.check_variable(False, "state", truth=True)
        self.check_variable(False, "input", truth=True)
        for wrong in (1, 0, None, "", Ratio(1)):
            self.check_variable(False, "discrete", truth=wrong)

    def test_starts_only_for_states_and_discrete_variables(self):
        self.check_variable(False, "input", start=Ratio(1))
        self.check_variable(False, "parameter", value=Ratio(1), start=Ratio(1))
        self.check_variable(False, "parameter", truth=True, value=True, start=True)

    def test_fixed_only_with_a_start(self):
        self.check_variable(True, "state", start=Ratio(1), fixed=True)
        self.check_variable(True, "discrete", truth=True, start=False, fixed=True)
        for kind in ("state", "discrete", "input"):
            self.check_variable(False, kind, fixed=True)
        for wrong in (1, 0, None, "", Ratio(1)):
            self.check_variable(False, "state", start=Ratio(1), fixed=wrong)


class EquationTest(CheckTest):
    def check_sides(self, is_good, expression):
        checked = self.good if is_good else self.bad
        for section in ("equations", "initials"):
            checked(with_equation(expression, ONE, section))
            checked(with_equation(ONE, expression, section))

    def test_sides_are_numbers(self):
        for expression in [ONE, TIME, var("x"), var("d"), pre("d"), var("p"), var("u"), ("if", var("q"), ONE, var("d")),
                           ("if", var("b"), pre("x"), var("y"))]:
            self.check_sides(True, expression)
        for expression in [TRUE, INITIAL, var("b"), pre("b"), var("q"), ("if", TRUE, var("b"), var("q")),
                           ("less", ONE, ONE)]:
            self.check_sides(False, expression)

    def test_sides_are_expressions(self):
        for wrong in [None, 1, "x", ("num", 1), ["num", Ratio(1)], ("neg", TRUE), ("foo", ONE), (), ("var", "x", 5)]:
            self.check_sides(False, wrong)

    def test_kinds_of_parts_are_those_of_the_variables(self):
        for expression, is_good in [
            (("neg", var("d")), True), (("neg", var("b")), False), (("neg", pre("b")), False),
            (("if", var("b"), ONE, ONE), True), (("if", var("d"), ONE, ONE), False),
            (("if", pre("d"), ONE, ONE), False),
            (("if", ("same", var("b"), var("q")), ONE, ONE), True),
            (("if", ("same", var("b"), var("d")), ONE, ONE), False),
            (("if", TRUE, var("d"), var("b")), False), (("if", ("not", var("x")), ONE, ONE), False),
            (("if", ("and", var("q"), pre("b")), ONE, ONE), True),
            (("if", var("x"), ("neg", var("x")), var("x")), False),
        ]:
            self.check_sides(is_good, expression)

    def test_names_are_variables_of_the_system(self):
        for wrong in [var("z"), pre("z"), var("X"), ("add", ONE, ("neg", var("x.y")))]:
            self.check_sides(False, wrong)

    def test_derivatives_are_of_states_and_inputs(self):
        for order in (1, 4):
            self.check_sides(True, var("x", order))
            self.check_sides(True, var("u", order))
            for name in ("d", "p", "b", "q"):
                self.check_sides(False, var(name, order))

    def test_pre_is_of_states_and_discrete_variables(self):
        for name, is_good in [("x", True), ("d", True), ("p", False), ("u", False), ("q", False)]:
            self.check_sides(is_good, pre(name))

    def test_bounds_of_expressions(self):
        self.check_sides(True, ("neg", wide(199)))
        self.check_sides(False, wide(201))
        self.check_sides(True, tower(30))
        self.check_sides(False, tower(31))

    def test_forms_of_pairs(self):
        for wrong in [(ONE,), (ONE, ONE, ONE), [ONE, ONE], (), None, ONE, "ab"]:
            self.bad(few(equations={"e": wrong}))
            self.bad(few(initials={"e": wrong}))


class WhenTest(CheckTest):
    def test_conditions_are_truths(self):
        for condition in [TRUE, INITIAL, var("b"), pre("b"), var("q"), ("less", var("x"), ONE)]:
            self.good(with_when(condition, []))
        for condition in [ONE, TIME, var("x"), pre("d"), None, ("and", var("d"), TRUE), ("truth", 1), var("z"),
                          pre("q"),
                          ("less", var("d", 1), ONE), tower(31, TRUE)]:
            self.bad(with_when(condition, []))

    def test_assignments_are_to_discrete_variables(self):
        self.good(with_when(TRUE, [("assign", "d", ONE)]))
        self.good(with_when(TRUE, [("assign", "b", FALSE)]))
        for name in ("x", "p", "u", "z", "", 1, None, ["d"]):
            self.bad(with_when(TRUE, [("assign", name, ONE)]))
        self.bad(with_when(TRUE, [("assign", "q", TRUE)]))

    def test_resets_are_of_states(self):
        self.good(with_when(TRUE, [("reset", "x", var("d"))]))
        for name in ("d", "p", "u", "z"):
            self.bad(with_when(TRUE, [("reset", name, ONE)]))
        self.bad(with_when(TRUE, [("reset", "b", TRUE)]))

    def test_kinds_of_acts(self):
        self.bad(with_when(TRUE, [("assign", "d", TRUE)]))
        self.bad(with_when(TRUE, [("assign", "b", ONE)]))
        self.bad(with_when(TRUE, [("assign", "b", var("d"))]))
        self.bad(with_when(TRUE, [("reset", "x", TRUE)]))
        self.bad(with_when(TRUE, [("reset", "x", var("b"))]))

    def test_expressions_of_acts(self):
        for wrong in [var("z"), var("d", 1), pre("u"), None, 1, ("neg", TRUE), tower(31), wide(201)]:
            self.bad(with_when(TRUE, [("assign", "d", wrong)]))
            self.bad(with_when(TRUE, [("reset", "x", wrong)]))

    def test_forms(self):
        for wrong in [("assign", "d"), ("assign", "d", ONE, ONE), ["assign", "d", ONE], ("set", "d", ONE), (), None,
                      "abc",
                      (1, "d", ONE), (["assign"], "d", ONE)]:
            self.bad(with_when(TRUE, [wrong]))
        for wrong in [(TRUE,), (TRUE, [], []), [TRUE, []], TRUE, None, (TRUE, None), (TRUE, ()), ([], TRUE)]:
            self.bad(few(whens={"w": wrong}))

    def test_no_two_acts_of_a_when_name_the_same_variable(self):
        self.good(with_when(TRUE, [("assign", "d", ONE), ("assign", "b", TRUE), ("reset", "x", ONE),
                                   ("reset", "y", ONE)]))
        self.bad(with_when(TRUE, [("assign", "d", ONE), ("assign", "d", ONE)]))
        self.bad(with_when(TRUE, [("reset", "x", ONE), ("assign", "d", ONE), ("reset", "x", num(2))]))

    def test_no_variable_is_assigned_by_two_whens(self):
        first = (TRUE, [("assign", "d", ONE)])
        self.bad(few(whens={"v": first, "w": (FALSE, [("reset", "x", ONE), ("assign", "d", num(2))])}))
        self.good(few(whens={"v": first, "w": (FALSE, [("assign", "b", TRUE)])}))

    def test_a_state_may_be_reset_by_several(self):
        acts = [("reset", "x", ONE)]
        self.good(few(whens={"u": (TRUE, acts), "v": (FALSE, acts), "w": (INITIAL, acts)}))


class BoundTest(CheckTest):
    def test_variables(self):
        self.good(system(variables=states(*[f"x{k}" for k in range(100)])))
        self.bad(system(variables=states(*[f"x{k}" for k in range(101)])))

    def test_equations(self):
        self.good(system(equations={f"e{k}": (ONE, ONE) for k in range(100)}))
        self.bad(system(equations={f"e{k}": (ONE, ONE) for k in range(101)}))

    def test_initials(self):
        self.good(system(initials={f"e{k}": (ONE, ONE) for k in range(100)}))
        self.bad(system(initials={f"e{k}": (ONE, ONE) for k in range(101)}))

    def test_both_kinds_of_equations_together(self):
        many = {f"e{k}": (ONE, ONE) for k in range(100)}
        self.good(system(equations=many, initials=many))

    def test_whens(self):
        self.good(system(whens={f"w{k}": ALWAYS for k in range(40)}))
        self.bad(system(whens={f"w{k}": ALWAYS for k in range(41)}))

    def test_acts(self):
        for many in (0, 20, 21):
            names = [f"x{k}" for k in range(many)]
            given = system(variables=states(*names), whens={"w": (TRUE, [("reset", name, ONE) for name in names])})
            (self.good if many <= 20 else self.bad)(given)


class ResidualTest(unittest.TestCase):
    def test_left_less_right(self):
        given = system(states("x"), {"b": (var("x"), num(5)), "a": (num(1, 2), var("x")), "c": (var("x"), num(2))},
                       initials={"i": (var("x"), num(100))})
        environment = {("var", "x", 0): Ratio(2)}
        before = shape([given, environment])
        found = residuals(given, environment)
        self.assertEqual(shape(found), shape({"a": Ratio(-3, 2), "b": Ratio(-3), "c": Ratio(0)}))
        self.assertIs(holds(given, environment), False)
        self.assertEqual(shape([given, environment]), before)
        self.assertIsNot(found, residuals(given, environment))

    def test_holds(self):
        given = system(states("x"), {"a": (var("x"), num(2)), "b": (("neg", var("x")), num(-2))})
        self.assertIs(holds(given, {("var", "x", 0): Ratio(4, 2)}), True)
        self.assertIs(holds(given, {("var", "x", 0): Ratio(3)}), False)
        self.assertEqual((residuals(system(), {}), holds(system(), {})), ({}, True))

    def test_errors_in_the_order_of_the_names(self):
        no_value, by_zero, bad_kind = var("x"), ("div", ONE, num(0)), ("neg", var("t"))
        environment = {("var", "t", 0): True}
        failing = [(no_value, NoValue), (by_zero, ByZero), (bad_kind, BadKind), (var("t"), BadKind)]
        for first, error in failing:
            for second, _ in failing:
                self.check_error({"b": (ONE, second), "a": (ONE, first)}, environment, error)
                self.check_error({"b": (second, ONE), "B": (first, ONE)}, environment, error)
                self.check_error({"a": (first, second)}, environment, error)
            self.check_error({"a": (ONE, num(2)), "b": (ONE, first)}, environment, error)

    def check_error(self, equations, environment, error):
        given = system(states("x", "t"), equations)
        for function in (residuals, holds):
            with self.assertRaises(error):
                function(given, environment)

    def test_a_side_that_is_a_truth(self):
        for pair in [(var("x"), ONE), (ONE, var("x"))]:
            self.check_error({"a": pair}, {("var", "x", 0): False}, BadKind)


class MergedTest(unittest.TestCase):
    def test_all_that_is_in_one_of_both(self):
        first = few()
        second = System(states("z"), {"f": (var("z"), ONE)}, {"i2": (var("z"), ONE)},
                        {"w2": (TRUE, [("reset", "z", ONE)])})
        before = shape([first, second])
        both = merged(first, second)
        for field in ("variables", "equations", "initials", "whens"):
            parts = {**getattr(first, field), **getattr(second, field)}
            self.assertEqual(sorted(getattr(both, field)), sorted(parts))
            self.assertEqual({name: shape(item) for name, item in getattr(both, field).items()},
                             {name: shape(item) for name, item in parts.items()})
        self.assertIsNone(check(both))
        self.assertEqual(shape([first, second]), before)
        fields = [containers(tuple(vars(one).values())) for one in (both, first, second)]
        self.assertFalse(fields[0] & (fields[1] | fields[2]))

    def test_names_of_both(self):
        parts = [states("x"), {"x": (ONE, ONE)}, {"x": (ONE, ONE)}, {"x": ALWAYS}]
        for k in range(4):
            alone = System(*[part if at == k else {} for at, part in enumerate(parts)])
            with self.assertRaises(BadSystem):
                merged(alone, alone)
            for other in range(4):
                if other != k:
                    merged(alone, System(*[part if at == other else {} for at, part in enumerate(parts)]))

    def test_too_much(self):
        makers = [
            (100, lambda names: system(variables=states(*names))),
            (100, lambda names: system(equations={name: (ONE, ONE) for name in names})),
            (100, lambda names: system(initials={name: (ONE, ONE) for name in names})),
            (40, lambda names: system(whens={name: ALWAYS for name in names})),
        ]
        for most, made in makers:
            first = made([f"a{k}" for k in range(most - 1)])
            check(merged(first, made(["b"])))
            with self.assertRaises(BadSystem):
                merged(first, made(["b", "c"]))


if __name__ == "__main__":
    unittest.main()
