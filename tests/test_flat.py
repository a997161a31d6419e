"""Points 25 and 26: the lines of statements, their names, and the expressions in them."""

import unittest

from building import containers, num, pre, shape, var
from linkwork.flat import flatten
from linkwork.ratios import Ratio
from linkwork.systems import System, check
from modelling import changes, equation_texts, library, system_texts, variable_texts, when_texts
from linkwork.instances import instances

USUAL = """
    Real x; Real y; Real xs[3]; Real ys[3]; Real none[0]; Real nil[0]; discrete Real d; discrete Real ds[2];
    discrete Boolean b; input Real u; parameter Real p = 2; parameter Integer n = 3; parameter Boolean yes = true;
    Part a; Part as[2];
"""
PART = "model Part Real z; Real zs[2]; Leaf l; Leaf ls[2]; end Part; model Leaf Real w; discrete Real e; end Leaf;"


def flat(equations="", initials="", more=PART):
    text = f"model M {USUAL} equation {equations} initial equation {initials} end M;"
    return flatten(library(text + more), "M", [])


class EqualTest(unittest.TestCase):
    def lines(self, text, expected):
        self.assertEqual(equation_texts(flat(text).equations), expected, text)
        initial = {"i" + name[1:]: line for name, line in expected.items()}
        self.assertEqual(equation_texts(flat("", text).initials), initial, text)
        self.assertEqual(flat("", text).equations, {})

    def test_scalars(self):
        self.lines("x = 1;", {"e1": "@x = 1"})
        self.lines("x = 1; 2 = y; x + y = 0.5;", {"e1": "@x = 1", "e2": "2 = @y", "e3": "add(@x,@y) = 1/2"})

    def test_expressions(self):
        for text, expected in (
                ("-x", "neg(@x)"), ("x + y - 1", "sub(add(@x,@y),1)"), ("x * y / 2", "div(mul(@x,@y),2)"),
                ("time", "time"), ("der(x)", "@x'"), ("der(u)", "@u'"), ("pre(x)", "pre@x"), ("pre(d)", "pre@d"),
                ("u", "@u"), ("p", "@p"), ("n", "@n"), ("a.z", "@a.z"), ("as[2].zs[1]", "@as[2].zs[1]"),
                ("a.l.w", "@a.l.w"), ("as[n - 1].ls[size(xs) / 3].w", "@as[2].ls[1].w"), ("xs[n]", "@xs[3]"),
                ("der(as[1].ls[2].w)", "@as[1].ls[2].w'"), ("pre(a.l.e)", "pre@a.l.e"),
                ("if yes then x else y", "if(@yes,@x,@y)"),
                ("if b and not (x < y) or initial() then 1 else 0", "if(or(and(@b,not(less(@x,@y))),initial),1,0)"),
                ("if x >= y then 1 else 0", "if(atmost(@y,@x),1,0)"),
                ("if x <> y then 1 else 0", "if(not(same(@x,@y)),1,0)"),
                ("if sample(0, 1) then 1 else 0", "if(sample(0,1),1,0)"),
                ("if sample(-1 / 2 + 3, 2 * 1.5 - 1) then 1 else 0", "if(sample(5/2,2),1,0)"),
                ("if true then 1 else 1 / 0", "if(true,1,div(1,0))"), ("size(xs)", "3"), ("size(none)", "0"),
                ("size(as)", "2"), ("size(as.z)", "2"), ("size(a.zs)", "2"), ("size(as[1].ls)", "2"),
                ("sum(xs)", "add(add(@xs[1],@xs[2]),@xs[3])"), ("sum(none)", "0"), ("sum({x})", "@x"),
                ("sum(as.z) + 1", "add(add(@as[1].z,@as[2].z),1)"),
                ("sum(2 * xs)", "add(add(mul(2,@xs[1]),mul(2,@xs[2])),mul(2,@xs[3]))"),
                ("sum({x, sum({y, 1}), n})", "add(add(@x,add(@y,1)),@n)"),
                ("sum(der(as.z))", "add(@as[1].z',@as[2].z')"),
                ("sum(as.ls[2].w)", "add(@as[1].ls[2].w,@as[2].ls[2].w)"), ("sum(none * sum(xs))", "0")):
            self.lines(f"x = {text};", {"e1": f"@x = {expected}"})

    def test_expressions_are_the_tuples_of_point_5(self):
        self.assertEqual(flat("x = der(y) + pre(d) * 1.5;").equations["e1"],
                         (var("x"), ("add", var("y", 1), ("mul", pre("d"), num(3, 2)))))

    def test_elements(self):
        self.lines("xs = ys;", {f"e1[{k}]": f"@xs[{k}] = @ys[{k}]" for k in (1, 2, 3)})
        self.lines("xs = {1, x, n};", {"e1[1]": "@xs[1] = 1", "e1[2]": "@xs[2] = @x", "e1[3]": "@xs[3] = @n"})
        self.lines("x = 1; as.z = a.zs;", {
            "e1": "@x = 1", "e2[1]": "@as[1].z = @a.zs[1]", "e2[2]": "@as[2].z = @a.zs[2]"})
        self.lines("as.ls[2].w = as[2].ls.w;",
                   {f"e1[{k}]": f"@as[{k}].ls[2].w = @as[2].ls[{k}].w" for k in (1, 2)})
        for text, expected in (
                ("-ys", "neg(@ys[#])"), ("xs + ys", "add(@xs[#],@ys[#])"), ("xs - ys", "sub(@xs[#],@ys[#])"),
                ("x * ys", "mul(@x,@ys[#])"), ("ys * (x + 1)", "mul(@ys[#],add(@x,1))"), ("ys / n", "div(@ys[#],@n)"),
                ("der(ys)", "@ys[#]'"), ("pre(ys)", "pre@ys[#]"),
                ("if b then xs else -ys", "if(@b,@xs[#],neg(@ys[#]))"),
                ("sum(a.zs) * xs", "mul(add(@a.zs[1],@a.zs[2]),@xs[#])"),
                ("-(xs + 2 * ys) / size(xs)", "neg(div(add(@xs[#],mul(2,@ys[#])),3))")):
            self.lines(f"xs = {text};", {f"e1[{k}]": f"@xs[{k}] = {expected.replace('#', str(k))}" for k in (1, 2, 3)})
            self.lines(f"{text} = xs;" if text[:2] != "if" else f"({text}) = xs;",
                       {f"e1[{k}]": f"{expected.replace('#', str(k))} = @xs[{k}]" for k in (1, 2, 3)})

    def test_no_elements(self):
        self.lines("none = nil; x = 1;", {"e2": "@x = 1"})
        self.lines("none = 2 * nil + none / x; x = 1;", {"e2": "@x = 1"})
        self.lines("pre(none) = der(nil);", {})

    def test_one_element(self):
        self.lines("{x} = {1};", {"e1[1]": "@x = 1"})


class NestedTest(unittest.TestCase):
    def lines(self, text, expected, section="equations"):
        found = flat(text) if section == "equations" else flat("", text)
        self.assertEqual(equation_texts(getattr(found, section)), expected, text)

    def test_loops(self):
        self.lines("for k in 1 : 3 loop xs[k] = k; end for;", {f"e1[{k}].1": f"@xs[{k}] = {k}" for k in (1, 2, 3)})
        self.lines("for k in 2 : n loop xs[k] = xs[k - 1]; 1 = 1; end for;", {
            "e1[2].1": "@xs[2] = @xs[1]", "e1[2].2": "1 = 1", "e1[3].1": "@xs[3] = @xs[2]", "e1[3].2": "1 = 1"})
        self.lines("x = 0; for k in 1 : 2 loop as.ls[k].w = a.zs; end for;", {
            "e1": "@x = 0", "e2[1].1[1]": "@as[1].ls[1].w = @a.zs[1]", "e2[1].1[2]": "@as[2].ls[1].w = @a.zs[2]",
            "e2[2].1[1]": "@as[1].ls[2].w = @a.zs[1]", "e2[2].1[2]": "@as[2].ls[2].w = @a.zs[2]"})
        self.lines("for k in 0 : 0 loop x = k; end for;", {"e1[0].1": "@x = 0"})
        self.lines("for k in 10000 : n * 3333 + 1 loop x = k; end for;", {"e1[10000].1": "@x = 10000"})

    def test_empty_loops(self):
        self.lines("for k in 2 : 1 loop nobody = k; end for; x = 1;", {"e2": "@x = 1"})
        self.lines("for k in 1 : -10000 loop nobody = k; end for; x = 1;", {"e2": "@x = 1"})
        self.lines("for k in 1 : 2 loop end for; x = 1;", {"e2": "@x = 1"})

    def test_words_of_loops(self):
        self.lines("for n in 1 : 2 loop xs[n] = n; end for;", {"e1[1].1": "@xs[1] = 1", "e1[2].1": "@xs[2] = 2"})
        self.lines("for x in 1 : 1 loop x = y; end for; x = y;", {"e1[1].1": "1 = @y", "e2": "@x = @y"})
        self.lines("for k in 1 : 2 loop for k in k : k loop y = k; end for; x = k; end for;", {
            "e1[1].1[1].1": "@y = 1", "e1[1].2": "@x = 1", "e1[2].1[2].1": "@y = 2", "e1[2].2": "@x = 2"})
        self.lines("for k in 1 : 1 loop for k in 3 : 3 loop y = k; end for; end for;", {"e1[1].1[3].1": "@y = 3"})
        self.lines("for z in 1 : 1 loop a.z = z; end for;", {"e1[1].1": "@a.z = 1"})
        self.lines("for xs in 1 : 1 loop xs[2] = xs; end for;", {"e1[1].1": "@xs[2] = 1"})
        self.lines("for j in 1 : 1 loop for k in j + 1 : 2 * j loop x = j * k; end for; end for;",
                   {"e1[1].1[2].1": "@x = mul(1,2)"})

    def test_negative_numbers_in_loops(self):
        self.lines("for k in -1 : 1 loop if k > 0 then x = 1; end if; end for;", {"e1[1].1.1": "@x = 1"})

    def test_ifs(self):
        self.lines("if true then x = 1; y = 2; else x = 3; end if;", {"e1.1": "@x = 1", "e1.2": "@y = 2"})
        self.lines("if false then x = 1; y = 2; else x = 3; end if;", {"e1.1": "@x = 3"})
        self.lines("if n < 3 then x = 1; end if; y = 1;", {"e2": "@y = 1"})
        self.lines("if n == 3 and not (n > 3) or nobody == 1 then xs = ys; end if;",
                   {f"e1.1[{k}]": f"@xs[{k}] = @ys[{k}]" for k in (1, 2, 3)})
        self.lines("if size(xs) == n then else x = 1; end if;", {})

    def test_what_is_not_chosen_is_not_looked_at(self):
        bad = "nobody = 1; connect(x, nobody); when 1 then x = 2; end when; for k in 1 : x loop end for;"
        bad += "if x then end if; xs = ys + 1; x = true; der(p) = 1; a.nobody = 2; xs[7] = 1;"
        bad += "for k in 1 : 3000 loop end for;"
        self.lines(f"if false then {bad} end if; x = 1;", {"e2": "@x = 1"})
        self.lines(f"if true then x = 1; else {bad} end if;", {"e1.1": "@x = 1"})
        self.lines(f"for k in 1 : 0 loop {bad} end for; x = 1;", {"e2": "@x = 1"})

    def test_each_in_each(self):
        inner = "if k == 1 then x = 1; for j in k : k loop y = j; end for; else xs = ys; end if;"
        self.lines(f"for k in 1 : 2 loop {inner} end for;", {
            "e1[1].1.1": "@x = 1", "e1[1].1.2[1].1": "@y = 1", "e1[2].1.1[1]": "@xs[1] = @ys[1]",
            "e1[2].1.1[2]": "@xs[2] = @ys[2]", "e1[2].1.1[3]": "@xs[3] = @ys[3]"})
        self.lines("if true then if true then for k in 1 : 1 loop x = 2; end for; end if; end if;",
                   {"e1.1.1[1].1": "@x = 2"})

    def test_initial_statements(self):
        self.lines("x = 1; for k in 1 : 2 loop xs[k] = k; end for; if true then y = 1; end if;", {
            "i1": "@x = 1", "i2[1].1": "@xs[1] = 1", "i2[2].1": "@xs[2] = 2", "i3.1": "@y = 1"}, "initials")

    def test_20_lists_around(self):
        text = "x = 1;"
        for _ in range(19):
            text = f"if true then {text} end if;"
        self.lines(text, {"e1" + ".1" * 19: "@x = 1"})

    def test_whens(self):
        found = flat("""
            x = 1;
            when x > 1 then d = x; reset(y, pre(y) + 1); b = not pre(b); end when;
            for k in 1 : 2 loop when sample(0, 1) then ds[k] = k; reset(as[k].z, 0); end when; end for;
            if true then when b then end when; end if;
            when initial() and sample(1, 2) then a.l.e = sum(xs); reset(a.ls[2].w, n); end when;
        """)
        self.assertEqual(when_texts(found.whens), {
            "e2": ("less(1,@x)", ["assign d @x", "reset y add(pre@y,1)", "assign b not(pre@b)"]),
            "e3[1].1": ("sample(0,1)", ["assign ds[1] 1", "reset as[1].z 0"]),
            "e3[2].1": ("sample(0,1)", ["assign ds[2] 2", "reset as[2].z 0"]),
            "e4.1": ("@b", []),
            "e5": ("and(initial,sample(1,2))", ["assign a.l.e add(add(@xs[1],@xs[2]),@xs[3])", "reset a.ls[2].w @n"]),
        })
        self.assertEqual(list(found.equations), ["e1"])


class SystemTest(unittest.TestCase):
    SOURCE = """
        model M A a(k = 2); A as[2]; Real x; parameter Integer k = 1; equation x = a.x; initial equation x = k; end M;
        model A parameter Integer k = 3; Real x; B b; Real v[k]; equation
          x = k * b.y; for i in 1 : k loop v[i] = i * x; end for; when x > k then b.d = x; end when;
        initial equation b.y = k; end A;
        model B Real y; discrete Real d; equation der(y) = 1; end B;
    """

    def test_statements_of_components(self):
        found = system_texts(flatten(library(self.SOURCE), "M", []))
        lines = {"e1": "@x = @a.x"}
        initials = {"i1": "@x = @k"}
        whens = {}
        for path, k in (("a", 2), ("as[1]", 3), ("as[2]", 3)):
            lines[f"{path}.e1"] = f"@{path}.x = mul(@{path}.k,@{path}.b.y)"
            lines.update({f"{path}.e2[{i}].1": f"@{path}.v[{i}] = mul({i},@{path}.x)" for i in range(1, k + 1)})
            lines[f"{path}.b.e1"] = f"@{path}.b.y' = 1"
            initials[f"{path}.i1"] = f"@{path}.b.y = @{path}.k"
            whens[f"{path}.e3"] = (f"less(@{path}.k,@{path}.x)", [f"assign {path}.b.d @{path}.x"])
        self.assertEqual(found["equations"], lines)
        self.assertEqual(found["initials"], initials)
        self.assertEqual(found["whens"], whens)

    def test_variables(self):
        classes = library(self.SOURCE)
        found = variable_texts(flatten(classes, "M", []).variables)
        entries = variable_texts(instances(classes, "M", []))
        self.assertEqual(found, {path: text for path, text in entries.items() if text not in ("A", "B")})
        self.assertEqual(found["as[1].v[3]"], "state")

    def test_modifications(self):
        found = flatten(library(self.SOURCE), "M", changes("a(k = k), k = 4"))
        self.assertEqual(found.variables["a.k"].value, Ratio(4))
        self.assertIn("a.e2[4].1", found.equations)
        self.assertIn("as[1].e2[3].1", found.equations)
        self.assertNotIn("as[1].e2[4].1", found.equations)

    def test_an_empty_model(self):
        found = flatten(library("model M end M;"), "M", [])
        self.assertIsInstance(found, System)
        self.assertEqual([found.variables, found.equations, found.initials, found.whens], [{}, {}, {}, {}])

    def test_what_is_inherited(self):
        classes = library("""
            model A Real x; equation x = 1; initial equation x = 2; end A;
            model M extends A; Real y; equation y = x; end M;
        """)
        found = system_texts(flatten(classes, "M", []))
        self.assertEqual(found["equations"], {"e1": "@x = 1", "e2": "@y = @x"})
        self.assertEqual(found["initials"], {"i1": "@x = 2"})

    def test_nothing_is_modified_or_shared(self):
        classes = library(self.SOURCE)
        given = changes("a(k = 1)")
        before = shape([classes, given])
        first = flatten(classes, "M", given)
        second = flatten(classes, "M", given)
        self.assertEqual(shape([classes, given]), before)
        self.assertEqual(system_texts(first), system_texts(second))
        parts = [[system.variables, system.equations, system.initials, system.whens] for system in (first, second)]
        self.assertFalse(containers(parts[0]) & containers(parts[1]))
        check(first)


if __name__ == "__main__":
    unittest.main()
