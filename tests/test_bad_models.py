"""Point 28: what flatten refuses, each beside a neighbour that it does not refuse."""

import unittest

from linkwork.flat import flatten
from modelling import changes, is_refused, library

USUAL = """
    Real x; Real y; Real xs[3]; Real ys[3]; Real two[2]; Real none[0]; discrete Real d; discrete Real ds[2];
    discrete Boolean b; discrete Boolean bs[2]; input Real u; parameter Real p = 2; parameter Integer n = 3;
    parameter Boolean yes = true; Part a; Part as[2]; Pin c; Pin cs[2]; Wide w; Pin cs3[3]; discrete Boolean nobs[0];
    Far f; Pin ones[1]; Part nas[0]; parameter Real np[0]; input Real nu[0];
"""
MORE = """
    model Part Real z; Real zs[2]; Leaf l; Leaf ls[2]; Pin c; Pin cs[2]; input Real u; discrete Real d; end Part;
    model Leaf Real w; discrete Real e; end Leaf; model Far Near n; end Far; model Near Pin c; end Near;
    connector Pin Real v; flow Real i; end Pin; connector Wide Real v; flow Real i; Real w; flow Real j; end Wide;
    connector Other flow Real i; Real v; end Other;
"""


def model(equations="", initials="", components=""):
    text = f"model M {USUAL} {components} equation {equations} initial equation {initials} end M;"
    return library(text + MORE)


class StatementCase(unittest.TestCase):
    def good(self, *texts):
        for text in texts:
            self.assertFalse(is_refused(flatten, model(text), "M", []), text)

    def bad(self, *texts):
        for text in texts:
            self.assertTrue(is_refused(flatten, model(text), "M", []), text)

    def good_sides(self, *texts):
        self.good(*[f"x = {text};" for text in texts])
        self.assertFalse(any(is_refused(flatten, model("", f"x = {text};"), "M", []) for text in texts))

    def bad_sides(self, *texts):
        self.bad(*[f"x = {text};" for text in texts], *[f"1 + ({text}) = 1;" for text in texts],
                 *[f"x = if true then 1 else {text};" for text in texts])
        for text in texts:
            self.assertTrue(is_refused(flatten, model("", f"x = {text};"), "M", []), text)


class SideTest(StatementCase):
    def test_references(self):
        self.good_sides("y", "a.z", "as[2].z", "a.l.w", "as[1].ls[2].w", "c.v", "as[2].c.i", "a.cs[1].v", "p", "n", "d",
                        "u")
        self.bad_sides("nobody", "a", "as", "as[1]", "c", "c.nobody", "a.nobody", "x.y", "Real", "a.l", "a.l.nobody",
                       "M", "a.z.z", "f.n.c")

    def test_indices(self):
        self.good_sides("xs[1]", "xs[3]", "xs[n]", "xs[2 * n - 4]", "as[size(as)].zs[2]", "xs[if n > 2 then 1 else 4]")
        self.bad_sides("xs[0]", "xs[4]", "xs[-1]", "xs[n + 1]", "xs[1.5]", "xs[p]", "xs[d]", "xs[true]", "xs[nobody]",
                       "xs[1 / 2]", "xs[1 / 0]", "none[1]", "as[3].z", "as[1].zs[3]", "x[1]", "a[1].z", "a.z[1]",
                       "xs[a.z]", "xs[time]", "xs[xs[1]]", "cs[3].v", "c[1].v", "c.v[1]", "n[1]", "xs[size(x)]")

    def test_indices_that_are_missing(self):
        self.bad_sides("xs", "as.z", "as[1].zs", "as.zs[1]", "none", "cs.v", "as.zs")
        self.bad("xs = as.zs;", "two = as.zs;", "two = as.ls.w;")
        self.good("two = as.zs[1];", "two = as[1].zs;", "two = as.z;", "two = as[2].ls.w;")

    def test_elements_that_fit(self):
        self.good("xs = ys;", "xs = 2 * ys;", "xs = ys * x + {1, 2, 3};", "xs = if b then ys else -xs;", "xs = ys / x;")
        self.bad("xs = 1;", "1 = xs;", "xs = two;", "xs = none;", "x = {1};", "xs = ys + 1;", "xs = 1 - ys;",
                 "xs = xs * ys;", "xs = 1 / ys;", "xs = xs / ys;", "xs = if b then ys else 1;",
                 "xs = if b then 1 else ys;", "xs = ys + two;", "xs = {1, 2};", "xs = {1, 2, two};",
                 "xs = {xs, ys, two};", "none = xs;", "xs = if bs then xs else ys;", "xs = if b then xs else two;",
                 "none = 1;", "{1} = 1;")

    def test_elements_where_scalars_are_needed(self):
        for text in ("if xs < ys then 1 else 2", "if not bs then 1 else 2", "if bs and b then 1 else 2",
                     "if b or bs then 1 else 2", "if bs then 1 else 2", "if xs == ys then 1 else 2",
                     "if sample(xs, 1) then 1 else 2", "if 1 <= xs then 1 else 2", "if {true} then 1 else 2"):
            self.bad_sides(text)

    def test_sums_and_sizes(self):
        self.good_sides("sum(xs)", "sum({1})", "sum(none)", "size(as)", "size(cs)", "size(none)", "size(as[2].cs)")
        self.bad_sides("sum(x)", "sum(1)", "sum(xs[1])", "sum(as)", "sum(cs)", "sum(as.zs)", "sum(sum(xs))", "sum(bs)",
                       "sum({1, true})", "size(x)", "size(n)", "size(a)", "size(c)", "size(xs[1])", "size(as.zs)",
                       "size(as[3].cs)", "size(nobody)", "size(as.cs[3])", "sum({xs})", "sum(none * xs[4])",
                       "sum(none * nobody)")

    def test_kinds(self):
        self.good_sides("if b then 1 else 2", "if yes and not b then 1 else d", "if b == yes then 1 else 2",
                        "if x == 1 then 1 else 2", "if (if b then yes else b) then 1 else 2")
        self.bad_sides("true", "b", "yes", "-b", "1 + true", "b * 2", "x / yes", "if x then 1 else 2",
                       "if 1 then 1 else 2", "if not x then 1 else 2", "if x and b then 1 else 2",
                       "if b or 1 then 1 else 2", "if b < yes then 1 else 2", "if b == 1 then 1 else 2",
                       "if b then 1 else yes", "if b then b else yes", "initial()", "sample(0, 1)", "x < y", "not b")
        self.bad("b = b;", "true = false;", "bs = bs;", "b = 1;", "x < y = 1 < 2;")

    def test_kinds_without_elements(self):
        self.good("none = none;", "none = x * none;", "der(none) = pre(none);", "none = nas.z;", "none = np;",
                  "none = der(nu);", "none = nas.ls[1].w;", "none = none * (if sample(0, 1) then 1 else 2);",
                  "none = pre(nas.u);", "none = sum(none) * none;", "none = none * sum({1});")
        self.bad("none = nas;", "none = nas.c;", "none = pre(np);", "none = der(np);", "none = pre(nu);",
                 "none = nas.nobody;", "none = none * (if sample(0, 0) then 1 else 2);", "x = sum(nobs);",
                 "none = none * sum({true});", "none = none * size(x);")
        self.bad("none = b * none;", "none = none / yes;", "nobs = nobs;", "none = nobs;",
                 "none = if x then none else none;", "none = der(nobs);", "none = none * (if 1 then 2 else 3);",
                 "none = none * xs[4];", "none = none * nobody;")

    def test_derivatives(self):
        self.good_sides("der(x)", "der(u)", "der(a.u)", "der(xs[2])", "der(c.v)", "der(as[1].cs[2].i)")
        self.bad_sides("der(d)", "der(p)", "der(n)", "der(b)", "der(yes)", "der(a)", "der(c)", "der(nobody)", "der(xs)",
                       "der(xs[4])", "der(a.d)", "der(ds[1])")

    def test_values_before_events(self):
        self.good_sides("pre(x)", "pre(d)", "pre(a.u)", "if pre(b) then 1 else 2", "pre(xs[1])", "pre(a.d)", "pre(c.i)")
        self.bad_sides("pre(u)", "pre(p)", "pre(n)", "pre(yes)", "pre(a)", "pre(c)", "pre(nobody)", "pre(xs)", "pre(b)")
        self.bad("for k in 1 : 1 loop x = pre(k); end for;", "for k in 1 : 1 loop x = der(k); end for;",
                 "for k in 1 : 1 loop x = size(k); end for;")

    def test_samples(self):
        for text in ("sample(0, 1)", "sample(-1, 0.5)", "sample(1 / 3, 2 * (1 - 1 / 4))", "sample(1 - 1, 3 / (2 - 1))",
                     "sample(-(1 + 1), 1)"):
            self.good_sides(f"if {text} then 1 else 2")
        for text in ("sample(0, 0)", "sample(0, -1)", "sample(x, 1)", "sample(0, p)", "sample(n, 1)", "sample(0, n)",
                     "sample(1 / 0, 1)", "sample(0, 1 / (1 - 1))", "sample(true, 1)", "sample(0, true)",
                     "sample(time, 1)", "sample(size(xs), 1)", "sample(sum({1}), 1)",
                     "sample(if true then 1 else 2, 1)", "sample({1}, 1)", "sample(1 + true, 1)", "sample(0, 1 < 2)"):
            self.bad_sides(f"if {text} then 1 else 2")

    def test_sizes_of_expressions(self):
        self.good_sides("x" + " + 1" * 29)
        # A sum of 20 has the size 39 and the depth 20.
        total = " + ".join(["sum({" + ", ".join(["x"] * 20) + "})"] * 5)
        self.good(f"x = {total};", f"x = -({total});", f"{total} = {total};")
        self.bad(f"x = -(-({total}));", f"x = {total} + y;", f"-(-({total})) = x;")
        # A sum of 10 whose first part has the depth n has the depth n + 9.
        total = "x"
        for _ in range(3):
            total = "sum({" + total + ", x" * 9 + "})"
        self.good(f"x = -(-({total}));", f"-(-({total})) = x;")
        self.bad(f"x = -(-(-({total})));", f"-(-(-({total}))) = x;")

    def test_sums_of_sums(self):
        self.good("x = sum(two * sum(two * sum(two * sum(two))));")
        self.bad("x = sum(xs * sum(xs * sum(xs * sum(xs * sum(xs * sum(xs))))));")
        # All its parts together would never be made.
        nested = "sum(many * " * 9 + "1" + ")" * 9
        classes = library(f"model M Real many[20]; Real x; equation x = {nested}; end M;")
        self.assertTrue(is_refused(flatten, classes, "M", []))


class StatementTest(StatementCase):
    def test_loops(self):
        self.good("for k in 1 : n loop xs[k] = k; end for;", "for k in size(xs) : 2 * n loop end for;",
                  "for k in 10000 : -10000 loop end for;")
        self.bad("for k in 0 : n loop xs[k] = k; end for;", "for k in 1 : 4 loop xs[k] = k; end for;",
                 "for k in 1 : p loop end for;", "for k in x : 2 loop end for;", "for k in 1 : nobody loop end for;",
                 "for k in 1.5 : 2 loop end for;", "for k in 1 : 1 / 2 loop end for;",
                 "for k in true : 1 loop end for;", "for k in 1 : 10001 loop end for;",
                 "for k in 10001 : 1 loop end for;", "for k in 1 : k loop end for;",
                 "for k in 1 : 1 loop end for; x = k;", "for k in 1 : {2} loop end for;",
                 "for k in 1 : ds[1] loop end for;", "for k in a.z : 1 loop end for;",
                 "for k in 1 : 1 loop xs = k; end for;", "for k in 1 : 1 loop x = k[1]; end for;",
                 "for k in 1 : 1 loop x = k.z; end for;")

    def test_2000_rounds(self):
        self.good("for k in 1 : 2000 loop end for;")
        self.bad("for k in 1 : 2001 loop end for;")
        self.good("for k in 1 : 1000 loop end for; for k in -499 : 500 loop end for;")
        self.bad("for k in 1 : 1000 loop end for; for k in -500 : 500 loop end for;")
        self.good("for k in 1 : 40 loop for j in 1 : 49 loop end for; end for;")
        self.bad("for k in 1 : 40 loop for j in 1 : 49 loop end for; end for; for k in 1 : 1 loop end for;")
        self.bad("for k in 1 : 10 loop for j in 1 : 200 loop end for; end for;")
        self.good("for k in 1 : 2000 loop end for; for k in 2 : 1 loop end for;")
        self.bad("for k in 3 : 1 loop end for; for k in 1 : 2001 loop end for;")
        self.good("for k in 1 : 2000 loop if k == 7 then x = k; end if; end for;")
        self.bad("for k in -10000 : 10000 loop end for;")
        initial = "for k in 1 : 1000 loop end for;"
        self.assertFalse(is_refused(flatten, model(initial, initial), "M", []))
        self.assertTrue(is_refused(flatten, model(initial, initial + "for k in 1 : 1 loop end for;"), "M", []))

    def test_rounds_of_all_instances(self):
        more = "model A parameter Integer n = 1000; equation for k in 1 : n loop end for; end A;"
        for text, is_bad in (("A a[2];", False), ("A a[3];", True), ("A a; A b(n = 1001);", True),
                             ("A a; A b;", False)):
            self.assertEqual(is_refused(flatten, library(f"model M {text} end M;" + more), "M", []), is_bad, text)

    def test_ifs(self):
        self.good("if n < 3 or true then end if;", "if size(xs) == n then end if;", "if not true then end if;",
                  "for k in 1 : 2 loop if k < 2 then x = k; end if; end for;", "if false and x < 1 then end if;")
        self.bad("if yes then end if;", "if b then end if;", "if x < 1 then end if;", "if 1 then end if;",
                 "if n then end if;", "if p == 2 then end if;", "if 1 / 0 == 1 then end if;",
                 "if nobody == 1 then end if;", "if time < 1 then end if;", "if initial() then end if;",
                 "if true == true then end if;", "if n < 3 or yes then end if;",
                 "if true and sample(0, 1) then end if;")

    def test_conditions_of_whens(self):
        self.good("when b then end when;", "when x < 1 then end when;", "when sample(0, 1) then end when;",
                  "when initial() then end when;", "when true then end when;", "when bs[2] then end when;")
        self.bad("when 1 then end when;", "when x then end when;", "when bs then end when;",
                 "when nobody then end when;", "when bs[3] then end when;", "when p then end when;",
                 "when xs < 1 then end when;", "when {b} then end when;", "when sample(0, 0) then end when;",
                 "when time then end when;")

    def test_acts(self):
        self.good(*[f"when b then {text} end when;" for text in (
            "d = 1;", "b = not b;", "ds[2] = x;", "a.d = 1;", "as[2].l.e = 1;", "reset(x, 1);", "reset(xs[3], u);",
            "reset(a.u, 1);", "reset(c.v, 1);", "reset(as[1].ls[2].w, pre(d));", "d = 1; reset(x, 2); b = true;",
            "ds[1] = 1; ds[2] = 2;", "d = sum(xs);")])
        self.bad(*[f"when b then {text} end when;" for text in (
            "x = 1;", "p = 1;", "n = 1;", "u = 1;", "yes = true;", "a = 1;", "c = 1;", "nobody = 1;", "ds = 1;",
            "ds[3] = 1;", "ds[0] = 1;", "d[1] = 1;", "d = true;", "b = 1;", "d = xs;", "d = {1};", "d = nobody;",
            "ds = {1, 2};", "a.z = 1;", "reset(d, 1);", "reset(u, 1);", "reset(p, 1);", "reset(b, true);",
            "reset(nobody, 1);", "reset(xs, 1);", "reset(xs[4], 1);", "reset(x, true);", "reset(x, xs);",
            "reset(a, 1);", "reset(c, 1);", "reset(a.d, 1);", "d = 1; d = 2;", "reset(x, 1); reset(x, 2);", "d = b;",
            "as.d = 1;", "reset(as.z, 1);")])

    def test_acts_of_several_whens(self):
        self.good("when b then d = 1; end when; when not b then ds[1] = 1; end when;",
                  "when b then reset(x, 1); end when; when not b then reset(x, 2); end when;")
        self.bad("when b then d = 1; end when; when not b then d = 1; end when;",
                 "for k in 1 : 2 loop when b then d = 1; end when; end for;")
        self.good("for k in 1 : 2 loop when b then ds[k] = 1; end when; end for;")

    def test_connects(self):
        self.good(*[f"connect({text});" for text in (
            "c, a.c", "c, cs[1]", "a.c, as[2].c", "cs, as.c", "cs, a.cs", "as[1].cs, as.c", "as.cs[1], cs", "c, c",
            "a.cs[n - 1], c", "w, w", "cs3[3], c", "c, ones[1]", "ones, ones")])
        self.bad(*[f"connect({text});" for text in (
            "x, c", "c, x", "a, c", "c, a.z", "c, c.v", "c, nobody", "c, a.nobody", "c, f.n.c", "f.n.c, a.c", "w, c",
            "c, w", "cs, c", "c, cs", "cs, cs3", "as.cs, cs", "cs[3], c", "cs[0], c", "c[1], c", "as[3].c, c",
            "as.c, c", "xs, cs", "a.cs[3], c", "c, a[1].c", "c.v, c.v", "cs[x], c", "as, cs", "cs3, a.cs", "w, cs",
            "c, ones", "ones, c")])

    def test_fields_of_connectors(self):
        source = "model M Pin p; Other o; equation connect(p, o); end M;" + MORE
        self.assertFalse(is_refused(flatten, library(source), "M", []))
        for other in ("Real v; flow Real j;", "Real i; flow Real v;", "Real v; flow Real i; Real w; flow Real j;", ""):
            odd = source.replace("Other o;", "Odd o;") + f"connector Odd {other} end Odd;"
            self.assertTrue(is_refused(flatten, library(odd), "M", []), other)


class BoundTest(unittest.TestCase):
    def check(self, source, is_bad, text=None):
        self.assertEqual(is_refused(flatten, library(source), "M", changes(text) if text else []), is_bad, source)

    def test_100_variables(self):
        self.check("model M Real x[20]; Real y[20]; A a[4]; Pin p; end M; model A Real x[14]; end A;" + MORE, False)
        self.check("model M Real x[20]; Real y[20]; A a[4]; Pin p; Real z; end M; model A Real x[14]; end A;" + MORE,
                   False)
        self.check("model M Real x[20]; Real y[20]; A a[3]; Real z[19]; end M; model A Real x[14]; end A;", True)
        self.check("model M Real x[20]; Real y[20]; A a[3]; Real z[18]; end M; model A Real x[14]; end A;", False)

    def test_100_equations(self):
        for word in ("equation", "initial equation"):
            source = f"model M Real x[20]; {word} for k in 1 : 5 loop x = -x; end for; # end M;"
            self.check(source.replace("#", ""), False)
            self.check(source.replace("#", "x[1] = 1;"), True)
        source = "model M Real x[20]; Pin p; equation for k in 1 : # loop x[1] = 1; end for; end M;" + MORE
        self.check(source.replace("#", "99"), False)
        self.check(source.replace("#", "100"), True)

    def test_40_whens_and_20_acts(self):
        for many, is_bad in ((40, False), (41, True)):
            self.check(f"model M equation for k in 1 : {many} loop when true then end when; end for; end M;", is_bad)
        for many, is_bad in ((20, False), (21, True)):
            acts = "".join([f"reset(a.x[{k}], 1);" if k <= 20 else "reset(y, 1);" for k in range(1, many + 1)])
            source = f"model M A a; Real y; equation when true then {acts} end when; end M; model A Real x[20]; end A;"
            self.check(source, is_bad)

    def test_names_of_lines(self):
        path = [c * 19 for c in "abc"]
        source = f"model M A {path[0]}; end M; model A B {path[1]}; end A; model B C {path[2]}; end B;"
        # The names are 60 characters, a word, a point and two more.
        for many, is_bad in ((17, False), (18, True)):
            for word in ("equation", "initial equation"):
                self.check(source + f"model C D {'d' * many}; end C; model D Real x; {word} x = 1; end D;", is_bad)
            more = f"model C D {'d' * many}; end C; model D equation when true then end when; end D;"
            self.check(source + more, is_bad)
        self.check("model M Real x; equation for k in -1 : 0 loop x = k; end for; end M;", True)
        self.check("model M Real x; equation for k in 0 : 0 loop x = k; end for; end M;", False)
        self.check("model M Real x; equation for k in -1 : 0 loop if k == 0 then x = k; end if; end for; end M;", False)
        self.check("model M equation for k in -1 : 0 loop when true then end when; end for; end M;", True)
        self.check("model M Pin p; Pin q; equation for k in -1 : 0 loop connect(p, q); end for; end M;" + MORE, False)

    def test_names_of_equations_of_connections(self):
        # The name is "c.", 60 characters, a word, and ".i".
        path = [c * 19 for c in "abc"]
        source = f"model M A {path[0]}; end M; model A B {path[1]}; end A; model B C {path[2]}; end B;"
        for many, is_bad in ((16, False), (17, True)):
            self.check(source + f"model C Pin {'d' * many}; end C;" + MORE, is_bad)

    def test_equations_with_one_name(self):
        more = "model P equation 1 = 1; end P; connector Q Real v; flow Real e1; end Q;"
        self.check("model M Q p; A c; end M; model A P p; end A;" + more, True)
        self.check("model M Q q; A c; end M; model A P p; end A;" + more, False)
        self.check("model M Q p; A d; end M; model A P p; end A;" + more, False)

    def test_a_connection_of_many_ends(self):
        # The sum of the flows is as deep as there are ends.
        for many, is_bad in ((10, False), (11, True)):
            source = f"""
                model M A a[{many}]; B b[20]; equation
                for k in 1 : 19 loop connect(b[k].q, b[k + 1].q); end for;
                for k in 1 : {many} loop connect(a[k].q, b[1].q); end for; end M;
                model A Thin q; end A; model B Thin q; end B; connector Thin Real v; flow Real i; end Thin;
            """
            self.check(source, is_bad)

    def test_what_instances_refuses(self):
        source = "model M parameter Real p = 1; A a; end M; model A parameter Real p = p; end A; connector C end C;"
        self.check(source, True)
        self.check(source, False, "a(p = p)")
        self.check(source, True, "a(p = true)")
        self.check(source, True, "b = 1, a(p = 1)")
        for name in ("A", "C", "Real", "Nobody"):
            self.assertTrue(is_refused(flatten, library(source), name, []), name)

    def test_statements_of_components(self):
        source = "model M A a; end M; model A B b; Real x; equation x = #; end A;"
        source += "model B Real y; parameter Real q; end B;"
        for text, is_bad in (("b.y", False), ("b.q", False), ("a.x", True), ("b.x", True), ("b", True), ("y", True)):
            self.check(source.replace("#", text), is_bad)
        self.check("model M A a[0]; end M; model A Real x; equation x = nobody; end A;", False)
        self.check("model M A a[1]; end M; model A Real x; equation x = nobody; end A;", True)
        self.check("model M Real x; end M; model A Real x; equation x = nobody; end A;", False)

    def test_inputs_of_the_model_itself(self):
        source = "model M A a; input Real u; Real x; equation x = pre(#); end M; model A input Real u; end A;"
        self.check(source.replace("#", "a.u"), False)
        self.check(source.replace("#", "u"), True)
        self.check(source.replace("pre(#)", "der(u)"), False)
        self.check(source.replace("x = pre(#);", "when true then reset(a.u, 1); end when;"), False)
        self.check(source.replace("x = pre(#);", "when true then reset(u, 1); end when;"), True)
        source = "model M Real x[0]; # end M; model A input Real u[0]; Real x[0]; A0 b; equation x = #; end A;"
        source += "model A0 input Real u[0]; end A0;"
        for text, is_bad in (("pre(u)", True), ("pre(b.u)", False), ("der(u)", False)):
            classes = library(source.replace("#", "A a;", 1).replace("#", text))
            self.assertEqual(is_refused(flatten, classes, "A", []), is_bad, text)
            self.assertFalse(is_refused(flatten, classes, "M", []), text)


if __name__ == "__main__":
    unittest.main()
