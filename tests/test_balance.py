"""Points 29 and 30: counts and balance, of systems and of instances by themselves."""

import random
import unittest

from building import TRUE, num, shape, system, var
from linkwork.balance import counts, is_balanced, own_counts, unbalanced
from linkwork.flat import flatten
from linkwork.ratios import Ratio
from linkwork.systems import Variable
from modelling import is_refused, library, system_texts

CIRCUIT = """
    connector Pin Real v; flow Real i; end Pin;
    model Two Pin p; Pin n; Real v; Real i; equation v = p.v - n.v; i = p.i; p.i + n.i = 0; end Two;
    model Resistor extends Two; parameter Real r = 1; equation v = r * i; end Resistor;
    model Capacitor extends Two; Real q(start = 1, fixed = true); equation q = v; der(q) = i; end Capacitor;
    model Ground Pin p; equation p.v = 0; end Ground;
    model Pair Pin p; Pin n; Resistor r[2]; equation
      connect(p, r[1].p); connect(p, r[2].p); connect(r[1].n, n); connect(r[2].n, r[1].n); end Pair;
    model Circuit Pair a; Capacitor c; Ground g; equation
      connect(a.n, c.p); connect(c.n, g.p); connect(g.p, a.p); end Circuit;
"""


def chain(text):
    """Circuits with some text in place of the # in one of them."""
    return f"""
        connector Pin Real v; flow Real i; end Pin; connector Four Real v; flow Real i; Real w; flow Real j; end Four;
        model S Pin p; Pin qs[2]; Four f; Real x; Real xs[2]; discrete Real d; discrete Boolean b[2]; input Real u;
          parameter Real k = 1; T t; {text} end S;
        model T Pin p; Pin q; Real y; discrete Real e; equation y = 1; end T;
        model M S s; S ss[2]; end M;
    """


class CountTest(unittest.TestCase):
    def counts(self, given, expected):
        before = shape(given)
        self.assertEqual(counts(given), expected)
        self.assertIsInstance(counts(given), tuple)
        self.assertIs(is_balanced(given), expected[0] == expected[1] and expected[2] == expected[3])
        self.assertEqual(shape(given), before)

    def test_systems(self):
        variables = {name: Variable(name, "state") for name in "xyz"}
        variables.update({name: Variable(name, "discrete", name == "b") for name in "bd"})
        variables.update(u=Variable("u", "input"), p=Variable("p", "parameter", value=Ratio(1)))
        line = (var("x"), num(1))
        equations = {f"e{k}": line for k in range(4)}
        three = dict(list(equations.items())[:3])
        initials = {"i1": line, "i2": line}
        first = {"w1": (TRUE, [("assign", "d", num(1)), ("reset", "x", num(1)), ("reset", "y", num(1))])}
        second = {"w2": (TRUE, [("assign", "b", TRUE)]), "w3": (TRUE, [("reset", "x", num(2))])}
        self.counts(system(), (0, 0, 0, 0))
        self.counts(system(variables), (3, 0, 2, 0))
        self.counts(system(variables, three), (3, 3, 2, 0))
        self.counts(system(variables, three, initials, first), (3, 3, 2, 1))
        self.counts(system(variables, three, initials, {**first, **second}), (3, 3, 2, 2))
        self.counts(system(variables, equations, initials, {**first, **second}), (3, 4, 2, 2))
        self.counts(system({"u": variables["u"], "p": variables["p"]}), (0, 0, 0, 0))
        self.counts(system({"u": variables["u"]}, {"e": (var("u"), num(1))}), (0, 1, 0, 0))

    def test_flat_systems(self):
        # Three parts with two connectors, one with one, and one that has two and no variables: 9 connectors.
        self.counts(flatten(library(CIRCUIT), "Circuit", []), (3 * 2 + 1 + 9 * 2, 25, 0, 0))


class OwnTest(unittest.TestCase):
    def own(self, source, path, expected, name="M"):
        classes = library(source)
        before = shape(classes)
        found = own_counts(classes, name, path)
        self.assertEqual(found, expected)
        self.assertIsInstance(found, tuple)
        self.assertEqual(shape(classes), before)

    def test_components_of_the_instance(self):
        for path in ("s", "ss[1]", "ss[2]"):
            self.own(chain(""), path, (4 + 3 + 2, 0, 3, 0))
        self.own(chain(""), "", (0, 0, 0, 0))
        self.own(chain(""), "s.t", (1 + 2, 1, 1, 0))
        self.own(chain(""), "", (3 + 3 + 2, 0, 3, 0), "S")

    def test_inputs(self):
        source = "model M input Real u; A a; end M; model A input Real u[2]; end A;"
        self.own(source, "", (0, 0, 0, 0))
        self.own(source, "a", (2, 0, 0, 0))

    def test_equations_of_statements(self):
        text = """
            equation x = 1; xs = {1, 2}; for k in 1 : 3 loop x = k; end for; if true then x = 1; x = 2; else end if;
            if false then x = 3; end if; when x > 1 then d = 1; reset(x, 2); b[1] = true; end when;
            for k in 2 : 2 loop when x > k then b[k] = false; reset(u, k); end when; end for;
        """
        self.own(chain(text + "initial equation x = 1;"), "s", (9, 1 + 2 + 3 + 2, 3, 3))
        self.own(chain(text), "s.t", (3, 1, 1, 0))
        self.own(chain(text), "", (0, 0, 0, 0))

    def test_outside_ends(self):
        for text, more in (("", 0), ("connect(p, t.p);", 1), ("connect(p, qs[1]);", 2), ("connect(p, p);", 0),
                           ("connect(t.p, t.q);", 0), ("connect(f, f);", 0),
                           ("connect(p, t.p); connect(qs[2], t.p);", 2),
                           ("for k in 1 : 2 loop connect(qs[k], t.q); end for;", 2),
                           ("connect(p, t.p); connect(t.p, p);", 1), ("connect(qs[1], t.p);", 1),
                           ("if false then connect(p, t.p); end if;", 0)):
            self.own(chain("equation " + text), "s", (9, more, 3, 0))
            self.own(chain("equation " + text), "", (8, more, 3, 0), "S")

    def test_connectors_with_several_fields(self):
        source = chain("").replace("model M S s; S ss[2];", "model M Four f; U u[2]; equation connect(f, u[1].f);")
        source += "model U Four f; Four g; equation connect(f, g); end U;"
        self.own(source, "", (2, 2, 0, 0))
        self.own(source, "u[2]", (4, 4, 0, 0))

    def test_paths_that_are_no_instances_of_models(self):
        classes = library(chain(""))
        for path in ("x", "s.x", "s.p", "s.qs[1]", "s.p.v", "ss", "ss[0]", "ss[3]", "s.t.y", "t", "M", ".", "s.",
                     "s[1]"):
            self.assertTrue(is_refused(own_counts, classes, "M", path), path)
        for name in ("N", "Pin", "Real", ""):
            self.assertTrue(is_refused(own_counts, classes, name, ""), name)
            self.assertTrue(is_refused(unbalanced, classes, name), name)

    def test_models_that_flatten_refuses(self):
        for text in ("equation x = nobody;", "equation x = b[1];", "Real z[21];", "equation x = 1; connect(p, f);",
                     "Real z[20]; Real z2[20];"):
            classes = library(chain(text))
            for name in ("S", "M"):
                is_bad = is_refused(flatten, classes, name, [])
                self.assertEqual(is_refused(own_counts, classes, name, ""), is_bad, text)
                self.assertEqual(is_refused(unbalanced, classes, name), is_bad, text)
            self.assertTrue(is_bad, text)


class BalanceTest(unittest.TestCase):
    def test_a_circuit(self):
        classes = library(CIRCUIT)
        before = shape(classes)
        self.assertEqual(unbalanced(classes, "Circuit"), [])
        self.assertEqual(shape(classes), before)
        self.assertTrue(is_balanced(flatten(classes, "Circuit", [])))
        for name in ("Two", "Resistor", "Capacitor", "Ground", "Pair"):
            expected = [""] if name == "Two" else []
            self.assertEqual(unbalanced(classes, name), expected, name)
            self.assertEqual(is_balanced(flatten(classes, name, [])), expected == [])

    def test_paths(self):
        source = CIRCUIT + "model More Resistor r; Two t[2]; Deep d; Real x; end More;"
        source += "model Deep Two t; Ground g; end Deep;"
        self.assertEqual(unbalanced(library(source), "More"), ["", "d.t", "t[1]", "t[2]"])
        self.assertEqual(unbalanced(library(source), "Deep"), ["t"])
        source = source.replace("p.i + n.i = 0", "p.i + n.i = 0; v = 7")
        self.assertEqual(unbalanced(library(source), "More"), ["", "r"])

    def test_discrete_variables(self):
        source = "model M A a; A b; end M; model A discrete Real d; discrete Boolean e; equation # end A;"
        for text, is_bad in (("", True), ("when true then d = 1; end when;", True),
                             ("when true then d = 1; e = true; end when;", False),
                             ("when true then d = 1; end when; when e then e = false; end when;", False)):
            self.assertEqual(unbalanced(library(source.replace("#", text)), "M"), ["a", "b"] if is_bad else [])

    def test_instances_that_even_each_other_out(self):
        source = "model M A a; equation a.x = 1; end M; model A Real x; end A;"
        self.assertEqual(unbalanced(library(source), "M"), ["", "a"])
        self.assertTrue(is_balanced(flatten(library(source), "M", [])))

    def test_if_all_are_balanced_so_is_the_flat_system(self):
        source = random.Random(30)
        seen = {True: 0, False: 0}
        for _ in range(150):
            def some(*texts):
                return " ".join([text for text in texts if source.random() < 0.6])

            text = f"""
                connector Pin Real v; flow Real i; end Pin;
                model A Pin p; {some("Pin q;", "Real x;")} equation p.v = 1; {some("p.i = 2;", "p.v = p.i;")} end A;
                model B Pin p; Pin q; A a; A as[2]; equation
                {some("connect(p, a.p);", "connect(as.p, as.p);", "connect(as[1].p, q);", "connect(p, q);")}
                {some("p.v = 0;", "q.v = 0;", "p.i = q.i;", "p.i = 0;", "q.i = a.p.i;")} end B;
                model M Pin r; B b; A a; equation {some("connect(r, b.p);", "connect(b.q, a.p);", "connect(b.p, a.p);")}
                {some("r.v = 1;", "r.i = 1;")} end M;
            """
            classes = library(text)
            for name in ("A", "B", "M"):
                parts = unbalanced(classes, name)
                even = is_balanced(flatten(classes, name, []))
                self.assertTrue(even or parts, text)
                seen[parts == []] += 1
        self.assertGreater(min(seen.values()), 10)

    def test_the_sum_of_all_counts(self):
        """What instances have too much or too little by themselves is what the flat system has."""
        text = "equation connect(p, t.p); connect(qs, qs); x = 1; when true then d = 1; end when;"
        for source, name in ((CIRCUIT, "Circuit"), (CIRCUIT, "Pair"), (CIRCUIT, "Two"), (chain(""), "M"),
                             (chain(text), "M")):
            classes = library(source)
            flat = flatten(classes, name, [])
            paths = ["", "a", "c", "g", "a.r[1]", "a.r[2]", "r[1]", "r[2]", "s", "ss[1]", "ss[2]", "s.t", "ss[1].t",
                     "ss[2].t"]
            paths = [path for path in paths if not is_refused(own_counts, classes, name, path)]
            own = [own_counts(classes, name, path) for path in paths]
            states, equations, discrete, assignments = counts(flat)
            self.assertEqual(states - equations, sum([part[0] - part[1] for part in own]))
            self.assertEqual((discrete, assignments), tuple([sum([part[k] for part in own]) for k in (2, 3)]))

    def test_any_order(self):
        classes = library(CIRCUIT)
        expected = system_texts(flatten(classes, "Circuit", []))
        own = own_counts(classes, "Circuit", "a")
        for item in classes:
            item.components.reverse()
            if all(statement[0] == "connect" for statement in item.equations):
                item.equations = [("connect", *statement[:0:-1]) for statement in item.equations[::-1]]
        classes.reverse()
        self.assertEqual(system_texts(flatten(classes, "Circuit", [])), expected)
        self.assertEqual(own_counts(classes, "Circuit", "a"), own)
        self.assertEqual(unbalanced(classes, "Circuit"), [])


if __name__ == "__main__":
    unittest.main()
