"""The whole program: from sources to runs without faults."""

import unittest

from building import shape, var
from linkwork.balance import is_balanced, unbalanced
from linkwork.beginning import blame
from linkwork.blocks import blocks
from linkwork.checking import faults
from linkwork.derivatives import offsets
from linkwork.errors import BadReset, NoSolution, Singular
from linkwork.events import run
from linkwork.flat import flatten
from linkwork.matching import graph, lack, tops
from linkwork.ratios import Ratio, ratio_text
from linkwork.systems import check, holds
from modelling import changes, library
from running import assert_that_it_holds
from solving import ratios

PARTS = """
    connector Pin Real v; flow Real i; end Pin;
    model Two Pin p; Pin n; Real v; equation v = p.v - n.v; p.i + n.i = 0; end Two;
    model Resistor extends Two; parameter Real r = 1; equation v = r * p.i; end Resistor;
    model Capacitor extends Two; parameter Real c = 1; equation c * der(v) = p.i; end Capacitor;
    model Inductor extends Two; parameter Real l = 1; equation l * der(p.i) = v; end Inductor;
    model Battery extends Two; parameter Real u = 1; equation v = u; end Battery;
    model Ground Pin p; equation p.v = 0; end Ground;
"""


def plan(text):
    start, end, length, method = text.split()
    return (*ratios(f"{start} {end} {length}"), method)


class ProgramTest(unittest.TestCase):
    def made(self, source, name="M", texts="", signals=None, own="0 1 1/4 backward"):
        """The system of a model, and its run, which has no faults."""
        system = flatten(library(source), name, changes(texts) if texts else [])
        check(system)
        self.assertTrue(is_balanced(system))
        before = shape(system)
        for method in ("backward", "trapezoid"):
            self.run_without_faults(system, signals or {}, plan(own.replace("backward", method)))
        self.assertEqual(shape(system), before)
        return system, run(system, signals or {}, plan(own))

    def run_without_faults(self, system, signals, own):
        found = run(system, signals, own)
        assert_that_it_holds(self, system, found)
        self.assertTrue(all(holds(system, environment) for _, environment in found))
        self.assertEqual(faults(system, signals, own, found), [])
        self.assertEqual(found[-1][1][("time",)], own[1])

    def values(self, instants, name):
        return " ".join(ratio_text(environment[var(name)]) for _, environment in instants)

    def test_a_circuit(self):
        source = PARTS + """
            model M Battery b(u = 6); Resistor r(r = 2); Capacitor c(v(start = 0, fixed = true)); Ground g; equation
              connect(b.p, r.p); connect(r.n, c.p); connect(c.n, b.n); connect(g.p, b.n); end M;
        """
        # c' = (6 - c) / 2, so that a step of 1/2 leads to (4 * c + 6) / 5.
        system, instants = self.made(source, own="0 1 1/2 backward")
        self.assertEqual(self.values(instants, "c.v"), "0 0 6/5 54/25")
        self.assertEqual(self.values(instants, "b.p.i"), "-3 -3 -12/5 -48/25")
        self.assertEqual(len(blocks(graph(system, tops(system)))), len(system.equations))

    def test_capacitors_side_by_side(self):
        # The voltages are equal, so that this must be differentiated.
        source = PARTS + """
            model M Capacitor a(v(start = 3, fixed = true)); Capacitor b(c = 2); Resistor r; Ground g; equation
              connect(a.p, b.p); connect(a.p, r.p); connect(a.n, b.n); connect(a.n, r.n); connect(a.n, g.p); end M;
        """
        system, instants = self.made(source, own="0 1 1/2 backward")
        self.assertGreater(max(offsets(system)[0].values()), 0)
        self.assertEqual(self.values(instants, "b.v"), self.values(instants, "a.v"))
        self.assertEqual(self.values(instants, "a.v"), "3 3 18/7 108/49")
        # Two starts that differ contradict each other.
        other = flatten(library(source), "M", changes("b(v(start = 4, fixed = true))"))
        self.assertRaises(NoSolution, run, other, {}, plan("0 1 1 backward"))
        self.assertIn(("start", "a.v"), [cause[:-1] for cause in blame(other, {}, Ratio(0))])

    def test_an_oscillating_circuit(self):
        source = PARTS + """
            model M Capacitor c(v(start = 1, fixed = true)); Inductor l; Ground g; equation
              connect(c.p, l.p); connect(c.n, l.n); connect(g.p, c.n); end M;
        """
        _, instants = self.made(source, own="0 1 1 trapezoid")
        # The energy stays, as trapezoids keep it.
        last = instants[-1][1]
        self.assertEqual(last[var("c.v")] * last[var("c.v")] + last[var("l.p.i")] * last[var("l.p.i")], Ratio(1))

    def test_a_ball(self):
        source = """
            model M extends Ball(h(start = 1, fixed = true)); discrete Real n; parameter Real keep = 1 / 2; equation
              when h <= 0 then reset(h, 0); reset(v, -keep * v); n = pre(n) + 1; end when; end M;
            model Ball Real h; Real v(start = 0, fixed = true); equation der(h) = v; der(v) = -10; end Ball;
        """
        _, instants = self.made(source, own="0 4/5 2/5 trapezoid")
        self.assertEqual(self.values(instants, "h"), "1 1 1/5 -11/5 0")
        self.assertEqual(self.values(instants, "v"), "0 0 -4 -8 4")
        self.assertEqual(self.values(instants, "n"), "0 0 0 0 1")
        bad = flatten(library(source.replace("der(h) = v", "h = 1 - time")), "M", [])
        self.assertRaises(BadReset, run, bad, {}, plan("0 2 1 backward"))

    def test_a_thermostat_with_inputs_samples_and_arrays(self):
        source = """
            model M parameter Integer n = 2; Room r[n](mass = 4); input Real out; discrete Real heat(start = 5);
              equation
                for k in 1 : n loop r[k].out = out; end for;
                r[1].heat = heat; r[2].heat = r[1].t - r[2].t;
                when sample(1, 1) then heat = if r[1].t < 3 then 5 else 0; end when; end M;
            model Room parameter Real mass = 1; Real t(start = 2); Real out; Real heat; equation
              mass * der(t) = out - t + heat; end Room;
        """
        system, instants = self.made(source, signals={"out": ratios("0 1/10")}, own="0 3 1/2 backward")
        self.assertEqual(len(system.variables), 11)
        self.assertEqual(len({ratio_text(environment[var("heat")]) for _, environment in instants}), 2)

    def test_a_guided_point(self):
        source = """
            model M Real x; Real y(start = 1); Real vx; Real vy; Real f; equation
              der(vx) = f; der(vy) = -10 - f; vx = der(x); vy = der(y); x - y = time; end M;
        """
        system, instants = self.made(source, own="0 1 1/2 trapezoid")
        self.assertEqual(max(offsets(system)[0].values()), 2)
        self.assertEqual(self.values(instants, "f"), "-5 -5 -5 -5")

    def test_models_that_cannot_be_solved(self):
        source = "model M Real x; Real y; equation x = 1; x = 2; end M;"
        system = flatten(library(source), "M", [])
        self.assertEqual(unbalanced(library(source), "M"), [])
        self.assertEqual(lack(graph(system, tops(system))), (["e1", "e2"], [var("x")]))
        self.assertRaises(Singular, run, system, {}, plan("0 1 1 backward"))
        self.assertRaises(Singular, faults, system, {}, plan("0 1 1 backward"), [])


if __name__ == "__main__":
    unittest.main()
