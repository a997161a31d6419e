"""Point 16: sound libraries, and the rule and the class that BadLibrary is about."""

import itertools
import unittest

from building import shape
from linkwork.errors import BadLibrary
from linkwork.library import check_library
from linkwork.syntax import parse_source

PIN = "connector Pin Real v; flow Real i; end Pin;"
SUB = "model Sub parameter Real p = 1; Real x; Pin c; Deep d; parameter Boolean b; end Sub; " + PIN + """
    model Deep parameter Integer n = 1; Real y; input Real u; discrete Boolean on; Pin c; end Deep;
"""


def many(text, number):
    return " ".join([text.replace("#", str(k)) for k in range(number)])


class LibraryTest(unittest.TestCase):
    def good(self, source):
        classes = parse_source(source)
        before = shape(classes)
        try:
            self.assertIsNone(check_library(classes))
        except BadLibrary as error:
            self.fail(f"{error.name}: {source}")
        self.assertEqual(shape(classes), before)

    def bad(self, name, source):
        """The library is refused because of this class, in whatever order its classes stand."""
        classes = parse_source(source)
        before = shape(classes)
        orders = [classes, classes[::-1]] if len(classes) > 4 else itertools.permutations(classes)
        for order in orders:
            with self.assertRaises(BadLibrary, msg=source) as caught:
                check_library(list(order))
            self.assertEqual(caught.exception.name, name, source)
        self.assertEqual(shape(classes), before)

    def test_libraries_that_are_sound(self):
        self.good("")
        self.good("model A end A; connector C end C; model a end a;")
        self.good(SUB + """
            model M Sub s[3](p = 2, x(start = 1), d(n = 3, y(fixed = true))); extends Sub(d(n = 4)); end M;
        """)

    # Rule 1

    def test_names_are_different(self):
        self.bad("B", "model B end B; model A end A; connector B end B;")
        self.bad("B", "model B end B; model C end C; model B end B; model C end C;")

    def test_names_are_not_built_in(self):
        for name in ("Real", "Integer", "Boolean"):
            self.bad(name, f"model A end A; model {name} end {name};")
            self.good(f"model {name.lower()} end {name.lower()}; model {name}s end {name}s;")
        self.bad("B", "model Real end Real; model B end B; model B end B;")

    # Rule 2

    def test_what_is_extended_is_a_class_of_the_same_kind(self):
        self.good("model A end A; model B extends A; end B; connector C end C; connector D extends C; end D;")
        self.bad("A", "model A extends B; end A;")
        self.bad("A", "model A extends Real; end A;")
        self.bad("B", "connector A end A; model B extends A; end B; model C extends A; end C;")
        self.bad("B", "model A end A; connector B extends A; end B;")
        self.bad("C", "model C extends A; extends X; end C; model A end A; model B extends C; end B;")

    def test_no_class_extends_itself(self):
        self.good("""
            model A extends B; end A; model B extends C; end B; model C end C; model D extends A; extends C; end D;
        """)
        self.bad("B", "model B extends B; end B; model A extends B; end A;")
        self.bad("B", "model C extends B; end C; model B extends C; end B; model A extends C; end A;")
        self.bad("B", """
            model B extends C; end B; model C extends D; end C; model D extends A; extends B; end D; model A end A;
        """)
        self.bad("B", "connector B extends B; end B;")

    # Rule 3

    def test_components_have_different_names(self):
        self.good("model A Real x; end A; model B extends A; Real y; end B; model C Real x; A a; end C;")
        self.bad("A", "model A Real x; parameter Real x = 1; end A;")
        self.bad("B", "model B extends A; Real x; end B; model A Real x; end A;")
        self.bad("C", "model C extends A; extends B; end C; model A Real x; end A; model B Real x; end B;")
        self.bad("C", "model C extends A; extends A; end C; model A Real x; end A;")
        self.bad("B", "model C extends B; Real z; end C; model B extends A; Real x; end B; model A Real x; end A;")

    def test_at_most_60_components(self):
        self.good("model A %s end A;" % many("Real x#;", 60))
        self.bad("A", "model A %s end A;" % many("Real x#;", 61))
        self.good("model A %s end A; model B extends A; %s end B;" % (many("Real x#;", 40), many("Real y#;", 20)))
        self.bad("B", "model A %s end A; model B extends A; %s end B;" % (many("Real x#;", 40), many("Real y#;", 21)))

    def test_at_most_60_equations_and_initial_equations(self):
        for word in ("equation", "initial equation"):
            self.good(f"model A {word} {many('1 = 1;', 60)} end A;")
            self.bad("A", f"model A {word} {many('1 = 1;', 61)} end A;")
            pair = f"model A {word} {many('1 = 1;', 30)} end A; model B extends A; {word} %s end B;"
            self.good(pair % many("1 = 1;", 30))
            self.bad("B", pair % many("1 = 1;", 31))
        self.good(f"model A equation {many('1 = 1;', 60)} initial equation {many('1 = 1;', 60)} end A;")
        inner = f"for k in 1 : 2 loop {many('1 = 1;', 61)} end for;"
        self.good(f"model A equation {many(inner, 60)} end A;")

    def test_bounds_of_what_is_inherited_on_many_ways(self):
        twice = "".join([f"model A{k} extends A{k - 1}; extends A{k - 1}; end A{k};" for k in range(1, 60)])
        self.good("model A0 end A0;" + twice)
        self.bad("A10", "model A0 equation 1 = 1; end A0;" + twice)
        self.bad("A10", "model A0 initial equation 1 = 1; end A0;" + twice)
        self.bad("A1", "model A0 Real x; end A0;" + twice)

    def test_modifications_of_an_extends_name_components(self):
        self.good("model A parameter Real p = 1; end A; model B extends A; end B; model C extends B(p = 2); end C;")
        self.bad("B", "model A parameter Real p = 1; end A; model B extends A(q = 2); end B;")
        self.bad("B", "model A end A; model B extends A(q = 2); parameter Real q = 1; end B;")
        self.bad("B", "model A Real x; end A; model B extends A(y(start = 1)); end B; model C extends B; end C;")
        # Modifications of components are a matter of rule 6.
        self.bad("B", "model A end A; model B extends A(q = 2); end B; model A1 A a(q = 2); end A1;")

    def test_no_list_has_a_name_twice(self):
        self.good(SUB + "model A Sub s(p = 1, x(start = 1)); end A;")
        self.bad("A", SUB + "model A Sub s(p = 1, p = 2); end A;")
        self.bad("A", SUB + "model A Sub s(x(start = 1), p = 3, x(fixed = true)); end A;")
        self.bad("A", SUB + "model A Sub s(d(n = 1, n = 1)); end A;")
        self.bad("A", SUB + "model A extends Sub(p = 1, p = 1); end A;")
        self.bad("A", SUB + "model A extends Sub(d(y(start = 1, start = 2))); end A;")
        self.bad("A", SUB + "model A Real x(start = 1, start = 1); end A; model B extends A; end B;")
        # A tree and a list of one name are refused by rule 6 only.
        classes = "model P parameter Real p = 1; end P; model A P q(p = 1, p(start = 1)); end A;"
        self.bad("A", classes)
        self.bad("B", classes + "model B P q(p = 1, p = 2); end B;")

    # Rule 4

    def test_classes_of_components(self):
        self.good("""
            model A B b; Real x; parameter Integer n; parameter Boolean t; C c; end A;
            model B end B; connector C end C;
        """)
        self.bad("A", "model A B b; end A;")
        self.bad("A", "model A real x; end A;")
        self.bad("B", "model C X x; end C; model B extends C; end B;")

    def test_no_class_has_itself_as_a_component(self):
        self.good("model A B b; C c; end A; model B C c; end B; model C end C;")
        self.bad("A", "model A A a; end A;")
        self.bad("A", "model A B b; end A; model B A a; end B;")
        self.bad("B", "model A B b; end A; model B C c; end B; model C B b; end C;")
        self.bad("B", "model A B b; end A; model B extends A; end B;")
        self.bad("B", "model A C c; end A; model B extends A; end B; model C B b; end C;")
        self.good("model A B b; end A; model B end B; model C extends B; A a; end C;")
        self.bad("B", "model B C c[0]; end B; model C extends D; end C; model D B b; end D;")

    # Rule 5

    def test_parameter(self):
        self.good("""
            model A parameter Real r; parameter Integer i = 1; parameter Boolean b = true; parameter Real v[2]; end A;
        """)
        self.bad("A", SUB + "model A parameter Sub s; end A;")
        self.bad("A", SUB + "model A parameter Pin c; end A;")

    def test_discrete(self):
        self.good("model A discrete Real r; discrete Boolean b; end A;")
        for kind in ("Integer", "Sub", "Pin"):
            self.bad("A", SUB + f"model A discrete {kind} x; end A;")

    def test_input(self):
        self.good("model A input Real r; input Real v[3]; end A;")
        for kind in ("Integer", "Boolean", "Sub", "Pin"):
            self.bad("A", SUB + f"model A input {kind} x; end A;")

    def test_flow(self):
        self.good("connector A flow Real r; Real p; end A;")
        self.bad("B", "model B flow Real r; end B;")
        for kind in ("Integer", "Boolean", "Sub", "Pin"):
            self.bad("A", SUB + f"connector A flow {kind} x; Real p; end A;")

    def test_integer_and_boolean(self):
        self.bad("A", "model A Integer x; end A;")
        self.bad("A", "model A Boolean x; end A;")

    def test_values(self):
        self.bad("A", "model A Real x = 1; end A;")
        self.bad("A", "model A discrete Real x = 1; end A;")
        self.bad("A", "model A input Real x = 1; end A;")
        self.bad("A", SUB + "model A Sub s = 1; end A;")
        self.bad("A", SUB + "model A Pin s = 1; end A;")
        self.bad("A", "connector A flow Real i = 1; Real v; end A;")

    def test_connectors(self):
        self.good("connector A Real v(start = 1); flow Real i; Real w; flow Real j(start = 2, fixed = true); end A;")
        self.good("connector A end A;")
        for text in ("Real v;", "flow Real i;", "Real v; Real w; flow Real i;", "parameter Real p; flow Real i;",
                     "discrete Real v; flow Real i;", "input Real v; flow Real i;", "Real v[1]; flow Real i;",
                     "Real v; flow Real i[1];", "Pin v; flow Real i;", "Sub v; flow Real i;",
                     "parameter Integer n; flow Real i;", "Real v; flow Real i; equation v = 1;",
                     "Real v; flow Real i; initial equation v = 1;"):
            self.bad("A", SUB + f"connector A {text} end A;")
        self.good(PIN + "connector A extends Pin; flow Real j; Real w; end A;")
        self.bad("A", PIN + "connector A extends Pin; flow Real j; end A;")
        self.bad("A", "connector A Real v; end A; connector B extends A; flow Real i; end B;")

    def test_components_that_are_connectors_have_no_changes(self):
        self.good(PIN + "model A Pin p[2]; end A;")
        self.bad("A", PIN + "model A Pin p(v(start = 1)); end A;")
        self.bad("B", PIN + "model C Pin p; end C; model B extends C(p(v(start = 1))); end B;")
        self.bad("A", PIN + "model B Pin p(v(start = 1)); end B; model A extends B; end A;")
        self.bad("A", PIN + """
            model B extends C(p(v(start = 1))); end B; model C Pin p; end C; model A extends B; end A;
        """)

    def test_rule_5_is_about_full_classes(self):
        self.bad("A", "model B Real x = 1; end B; model A extends B; end A; model C extends A; end C;")
        self.good("connector C extends D; Real w; flow Real j; end C; connector D end D;")

    # Rule 6

    def test_changes_of_reals(self):
        for prefix in ("", "discrete"):
            self.good(f"model A {prefix} Real x(start = 1, fixed = true); {prefix} Real y(fixed = 2); end A;")
            for text in ("value = 1", "start(a = 1)", "fixed(start = 1)", "start = 1, x = 2", "Start = 1"):
                self.bad("A", f"model A {prefix} Real x({text}); end A;")
        self.good("connector A flow Real x(start = 1, fixed = true); Real y(start = 1); end A;")
        self.bad("A", "connector A flow Real x(min = 1); Real y; end A;")

    def test_changes_of_other_built_in_components(self):
        self.good("model A discrete Boolean b(start = true, fixed = true); end A;")
        self.bad("A", "model A discrete Boolean b(value = true); end A;")
        for text in ("parameter Real", "parameter Integer", "parameter Boolean", "input Real"):
            self.good(f"model A {text} x; end A;")
            for word in ("start", "fixed", "value"):
                self.bad("A", f"model A {text} x({word} = 1); end A;")

    def test_changes_of_a_model(self):
        self.good(SUB + "model A Sub s(p = 1, b = true, x(start = 1), d(n = 2, on(start = true))); end A;")
        for text in ("q = 1", "x = 1", "c = 1", "d = 1", "p(start = 1)", "x(value = 1)", "d(y = 1)", "d(u = 1)",
                     "d(u(start = 1))", "d(m = 1)", "d(m(n = 1))", "c(v(start = 1))", "d(c(v(start = 1)))",
                     "d(n(start = 1))", "d(on(min = 1))", "d(on = true)", "b(start = true)"):
            self.bad("A", SUB + f"model A Sub s({text}); end A;")

    def test_modifications_of_an_extends(self):
        self.good(SUB + "model A extends Sub(p = 1, b = true, x(start = 1), d(n = 2, on(start = true))); end A;")
        for text in ("x = 1", "c = 1", "d = 1", "p(start = 1)", "x(value = 1)", "d(y = 1)", "d(u(start = 1))",
                     "d(m = 1)", "d(c(v(start = 1)))", "b(start = true)"):
            self.bad("A", SUB + f"model A extends Sub({text}); end A; model B extends A; end B;")
        self.good(PIN + "connector A extends Pin(v(start = 1), i(fixed = false)); end A;")
        self.bad("A", PIN + "connector A extends Pin(v = 1); end A;")
        self.bad("A", PIN + "connector A extends Pin(v(min = 1)); end A;")

    def test_components_of_full_classes_can_be_changed(self):
        source = "model A parameter Real p = 1; end A; model B extends A; end B; model C B b(p = 2); end C;"
        self.good(source)
        self.bad("C", source.replace("p = 2", "q = 2"))

    def test_an_empty_list_of_modifications(self):
        for name, is_good in (("p", True), ("x", True), ("d", True), ("c", False)):
            classes = parse_source(SUB + "model A extends Sub(p = 1); end A;")
            classes[-1].extends[0][1][:] = [(name, [])]
            if is_good:
                check_library(classes)
            else:
                with self.assertRaises(BadLibrary) as caught:
                    check_library(classes)
                self.assertEqual(caught.exception.name, "A")

    # The order of the rules

    def test_the_first_rule_that_is_violated(self):
        violations = [
            ("Z1", "model Z1 end Z1; connector Z1 end Z1;"),
            ("Y2", "model Y2 extends Y2; end Y2;"),
            ("X3", "model X3 Real x; Real x; end X3;"),
            ("W4", "model W4 Nobody x; end W4;"),
            ("V5", "model V5 Integer n; end V5;"),
            ("U6", "model U6 Real x(min = 1); end U6;"),
        ]
        for first, second in itertools.combinations(violations, 2):
            self.bad(first[0], second[1] + first[1])
            self.bad(first[0], first[1] + second[1])

    def test_the_least_name(self):
        for text in ("extends Nobody;", "Real x; Real x;", "Nobody x;", "Integer n;", "Real x(min = 1);"):
            names = ["B2", "B", "a", "Ba", "C"]
            source = "model A end A;" + "".join([f"model {name} {text} end {name};" for name in names])
            self.bad("B", source)


if __name__ == "__main__":
    unittest.main()
