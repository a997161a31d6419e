"""Points 19 to 21: the values of parameters, starts and fixed, and the elements of trees."""

import unittest

from linkwork.instances import instances
from modelling import changes, is_refused, library, value_text

USUAL = """
    parameter Integer n = 3; parameter Integer one = 1; parameter Real r = 1 / 2; parameter Boolean yes = true;
    parameter Boolean no; parameter Real v[3] = {1, 2, 3}; parameter Real w[3] = 5; parameter Real none[0];
    parameter Boolean bs[2] = {true, false}; parameter Integer ks[2] = {7, 8}; A a(p = 4); A as[2]; Real x; Real xs[3];
    discrete Real d; input Real u; C c;
"""
CLASSES = """
    model A parameter Real p = 6; parameter Real q[2] = {p, p + 1}; parameter Integer k = 2; B b[3]; Real y; Real ys[2];
      A0 empty[0]; end A;
    model B parameter Real t = 9; parameter Real ts[2] = {10, 11}; end B;
    model A0 parameter Real p = 1; parameter Real q[2]; end A0;
    connector C Real f; flow Real g; end C;
"""


def with_model(text, more=CLASSES):
    return library(f"model M {text} end M; {more}")


class ValueCase(unittest.TestCase):
    def value(self, text, expected, prefix="Real"):
        found = instances(with_model(f"{USUAL} parameter {prefix} it = {text};"), "M", [])
        self.assertEqual(value_text(found["it"].value), str(expected), text)

    def values(self, text, expected, prefix="Real"):
        found = instances(with_model(f"{USUAL} parameter {prefix} it[{len(expected)}] = {text};"), "M", [])
        texts = [value_text(found[f"it[{k}]"].value) for k in range(1, len(expected) + 1)]
        self.assertEqual(texts, [str(value) for value in expected], text)

    def refused(self, text, declaration="Real it"):
        classes = with_model(f"{USUAL} parameter {declaration} = {text};")
        self.assertTrue(is_refused(instances, classes, "M", []), text)


class ScalarTest(ValueCase):
    def test_without_a_tree(self):
        classes = with_model("parameter Real r; parameter Integer n; parameter Boolean b; parameter Real v[2];")
        found = instances(classes, "M", [])
        self.assertEqual({path: value_text(entry.value) for path, entry in found.items()},
                         {"r": "0", "n": "0", "b": "false", "v[1]": "0", "v[2]": "0"})

    def test_operators(self):
        for text, expected in (("1.25", "5/4"), ("-r", "-1/2"), ("r + n", "7/2"), ("r - 1", "-1/2"), ("r * r", "1/4"),
                               ("1 / n", "1/3"), ("if yes then 1 else 2", 1), ("if r < n then r else n", "1/2"),
                               ("1000000 * 1000000", 10 ** 12)):
            self.value(text, expected)
        for text, expected in (("true", True), ("yes", True), ("not yes", False), ("yes and no", False),
                               ("no or yes", True), ("r < 1", True), ("n <= 3", True), ("r == 0.5", True),
                               ("yes == no", False), ("r <> n", True), ("if no then no else yes", True)):
            self.value(text, str(expected).lower(), "Boolean")

    def test_references(self):
        for text, expected in (("n", 3), ("a.p", 4), ("a.q[2]", 5), ("as[2].p", 6), ("as[1].q[one]", 6), ("v[n]", 3),
                               ("v[n - one]", 2), ("a.b[3].t", 9), ("as[one].b[n].ts[if n > 2 then 2 else 1]", 11),
                               ("ks[1]", 7), ("a.k", 2), ("v[size(v)]", 3), ("w[2]", 5)):
            self.value(text, expected)

    def test_references_that_are_not_right(self):
        for text in ("nobody", "x", "xs[1]", "d", "u", "c", "c.f", "a", "as", "a.y", "a.ys[1]", "a.nobody", "nobody.p",
                     "n.p", "n[1]", "a[1].p", "v", "as[1].q", "as.p", "as.q", "v[0]", "v[4]", "v[-1]", "as[3].p",
                     "v[r]", "v[1.5]", "v[a.k]", "v[ks[1]]", "v[nobody]", "v[1 / 0]", "v[1 / 2]", "none[1]", "none",
                     "v[time]", "a.b[4].t", "a.empty[1].p", "yes.p", "as[v[1]].p"):
            self.refused(text)

    def test_references_in_parts_that_are_not_needed(self):
        self.value("if true then 1 else v[3]", 1)
        for text in ("nobody", "x", "v[4]", "v", "a.nobody", "v[1 / 0]", "v[nobody]", "xs[1]", "n[1]", "sum(xs)"):
            self.refused(f"if true then 1 else {text}")
            self.refused(f"if yes or {text} == 1 then 1 else 2")
            self.refused(f"if no and {text} == 1 then 1 else 2")

    def test_what_is_not_needed_has_no_value(self):
        self.value("if yes then 1 else 1 / 0", 1)
        self.value("if no then 1 / (n - 3) else 2", 2)
        self.value("if yes or 1 / 0 == 1 then 1 else 2", 1)
        self.value("if no and 1 / 0 == 1 then 1 else 2", 2)
        self.value("if yes then 1 else sum({1 / 0, 2})", 1)
        self.value("if yes then 1 else sum({1, 2 + true})", 1)
        for text in ("1 / 0", "if no then 1 else 1 / 0", "1 / (n - 3)", "sum({1, 1 / 0})", "0 * (1 / 0)",
                     "if 1 / 0 == 1 or yes then 1 else 2"):
            self.refused(text)

    def test_what_values_have_not(self):
        for text in ("time", "der(x)", "pre(d)", "der(r)", "pre(r)", "if initial() then 1 else 2",
                     "if sample(0, 1) then 1 else 2"):
            self.refused(text)
            self.refused(f"if true then 1 else ({text})")

    def test_kinds(self):
        for text in ("true", "yes", "1 + true", "-yes", "if 1 then 2 else 3", "if yes and 1 then 2 else 3",
                     "if n == yes then 1 else 2", "if yes < no then 1 else 2", "not 1"):
            self.refused(text)
        for text in ("1", "r", "not 1", "1 and true", "yes + 1"):
            self.refused(text, "Boolean it")
        self.value("if yes then 1 else true", 1)

    def test_integers(self):
        for text, expected in (("10000", 10000), ("-10000", -10000), ("20000 / 2", 10000), ("r * 4", 2), ("n", 3),
                               ("1.5 + 1.5", 3)):
            self.value(text, expected, "Integer")
        for text in ("10001", "-10001", "1 / 2", "r", "1.5", "yes", "5001 + 5000"):
            self.refused(text, "Integer it")
        self.values("{1, 2}", [1, 2], "Integer")
        self.refused("{1, r}", "Integer it[2]")

    def test_sizes(self):
        for text, expected in (("size(v)", 3), ("size(none)", 0), ("size(as)", 2), ("size(as.p)", 2), ("size(a.q)", 2),
                               ("size(as[1].b)", 3), ("size(as[2].b[1].ts)", 2), ("size(a.b.t)", 3), ("size(xs)", 3),
                               ("size(a.empty)", 0), ("size(as.q[2])", 2), ("2 * size(v) + 1", 7)):
            self.value(text, expected)
        for text in ("size(n)", "size(v[1])", "size(a)", "size(as.q)", "size(nobody)", "size(as[3].q)", "size(as.q[3])",
                     "size(as.nobody)", "size(n[1])"):
            self.refused(text)
            self.refused(f"if true then 1 else {text}")

    def test_sums(self):
        for text, expected in (("sum(v)", 6), ("sum(none)", 0), ("sum({r})", "1/2"), ("sum(as.p)", 12), ("sum(a.q)", 9),
                               ("sum(v + w)", 21), ("sum(a.b.ts[2])", 33), ("sum({sum(v), sum(w), 1})", 22),
                               ("sum(v * sum(v * sum(v)))", 216), ("sum(-v)", -6), ("sum(a.empty.p)", 0),
                               ("sum(a.empty.q[5])", 0)):
            self.value(text, expected)
        for text in ("sum(1)", "sum(v[1])", "sum(n)", "sum(as.q)", "sum({v})", "sum(sum(v))", "sum({1, true})",
                     "sum(a.empty.nobody)", "sum(a.empty.q)", "sum(none * nobody)", "sum(none * v[4])",
                     "sum(a.empty.q[1 / 2])"):
            self.refused(text)

    def test_sums_of_sums(self):
        nested = "sum(ones * " * 9 + "1" + ")" * 9
        source = "parameter Real ones[20] = 1; parameter Real it = %s;"
        found = instances(with_model(source % nested), "M", [])
        self.assertEqual(value_text(found["it"].value), str(20 ** 9))
        never = "if true then 1 else " + nested.replace("* 1)", "* (1 / 0))")
        self.assertEqual(value_text(instances(with_model(source % never), "M", [])["it"].value), "1")


class ElementTest(ValueCase):
    def test_scalars_are_for_all(self):
        self.values("r", ["1/2"] * 3)
        self.values("sum(v)", [6, 6])

    def test_elements(self):
        for text, expected in (
                ("{4, r, n + 1}", [4, "1/2", 4]), ("v", [1, 2, 3]), ("as.p", [6, 6]), ("a.q", [4, 5]),
                ("as.q[2]", [7, 7]), ("a.b[2].ts", [10, 11]), ("-v", [-1, -2, -3]), ("v + w", [6, 7, 8]),
                ("v - w", [-4, -3, -2]), ("2 * v", [2, 4, 6]), ("v * r", ["1/2", 1, "3/2"]),
                ("v / 2", ["1/2", 1, "3/2"]), ("if yes then v else w", [1, 2, 3]),
                ("if no then v else w + {1, 0, 0}", [6, 5, 5]), ("-(v + 2 * w) / n", ["-11/3", -4, "-13/3"]),
                ("{sum(v), v[1], size(v)} - v", [5, -1, 0]), ("if no then v / 0 else w", [5, 5, 5])):
            self.values(text, expected)
        self.values("{yes, no}", ["true", "false"], "Boolean")
        self.values("bs", ["true", "false"], "Boolean")
        self.values("if yes then bs else {no, no}", ["true", "false"], "Boolean")

    def test_elements_that_do_not_fit(self):
        for text in ("v + 1", "1 + v", "v - r", "v * w", "2 / v", "v / w", "if yes then v else 1",
                     "if yes then 1 else v", "if bs then v else w", "{v, 1, 2}", "{1, 2}", "{1, 2, 3, 4}", "none",
                     "v + as.p", "{{1}, 2, 3}", "if yes then v else {1, 2}", "v + {1, 2}", "as.q"):
            self.refused(text, "Real it[3]")
        for text in ("not bs", "bs and bs", "bs == bs", "yes or bs"):
            self.refused(text, "Boolean it[2]")
        for text in ("v < w", "v == v"):
            self.refused(text, "Boolean it[3]")
        for text in ("v", "{1}", "2 * v", "as.p"):
            self.refused(text)

    def test_one_element(self):
        self.values("{n}", [3])
        self.refused("{3}", "Real it")

    def test_only_the_parameter_itself_is_taken_apart(self):
        source = "A a[2](q = {1, 2}, p = 3);"
        found = instances(with_model(source), "M", [])
        self.assertEqual([value_text(found[path].value) for path in ("a[1].q[1]", "a[1].q[2]", "a[2].q[2]", "a[2].p")],
                         ["1", "2", "2", "3"])
        self.assertTrue(is_refused(instances, with_model("A a[2](p = {1, 2});"), "M", []))
        self.assertTrue(is_refused(instances, with_model("A a[2](q = {1, 2, 3});"), "M", []))

    def test_elements_that_depend_on_each_other(self):
        self.values("{1, it[1] + 1, it[2] * 2}", [1, 2, 4])
        self.values("{it[3], 1, it[2]}", [1, 1, 1])
        for text in ("{it[1], 2}", "{it[2], it[1]}", "it", "-it", "1 * it", "it[1]", "sum(it)"):
            self.refused(text, "Real it[2]")

    def test_indices_belong_to_their_element(self):
        source = "parameter Integer n = p[1]; parameter Real p[2] = {2, v[n]}; parameter Real v[2] = {5, 6};"
        self.assertEqual(value_text(instances(with_model(source), "M", [])["p[2]"].value), "6")


class DependenceTest(unittest.TestCase):
    def good(self, text):
        self.assertFalse(is_refused(instances, with_model(text), "M", []), text)

    def bad(self, text):
        self.assertTrue(is_refused(instances, with_model(text), "M", []), text)

    def test_values_depend_on_all_that_their_trees_name(self):
        self.bad("parameter Real p = p;")
        self.bad("parameter Real p = q; parameter Real q = r; parameter Real r = p;")
        self.bad("parameter Real p = if true then 1 else p;")
        self.bad("parameter Boolean b = true or b;")
        self.bad("parameter Real p = 0 * q; parameter Real q = if true then 1 else p;")
        self.good("parameter Real p = q; parameter Real q = r; parameter Real r = 1;")

    def test_values_of_components(self):
        self.good("A a(p = r); parameter Real r = a.k;")
        self.bad("A a(p = r); parameter Real r = a.q[1];")
        self.bad("A a(p = a.p);")
        self.bad("A a(p = a.q[2]);")
        self.good("A a(p = b.p); A b;")
        self.bad("A a(p = b.p); A b(p = a.p);")
        self.good("A a[2](p = b.q[1]); A b(p = c.p); A c;")

    def test_sizes_and_indices(self):
        self.bad("Real x[size(x)];")
        self.bad("Real x[n]; parameter Integer n = size(x);")
        self.bad("Real x[size(y)]; Real y[size(x)];")
        self.bad("parameter Integer n = v[n]; parameter Real v[2] = 1;")
        self.bad("parameter Integer n = m; parameter Integer m = v[n]; parameter Real v[2] = 1;")
        self.good("Real x[size(y)]; Real y[n]; parameter Integer n = v[2]; parameter Real v[2] = {1, 3};")
        self.good("parameter Integer n = 2; Real x[if n > 1 then n else size(x)];")
        self.good("parameter Integer n = 2; parameter Integer m = v[if n > 1 then n else m]; parameter Real v[2] = 1;")
        self.bad("parameter Integer n = 2; parameter Integer m = v[if n < 1 then n else m]; parameter Real v[2] = 1;")
        self.bad("A a[n]; parameter Integer n = a[1].k;")

    def test_trees_that_are_replaced_are_not_looked_at(self):
        source = "model N parameter Real p = p; Real x(start = 1 / 0); end N;"
        for text, is_bad in (("p = 1, x(start = 2)", False), ("p = 1", True), ("x(start = 2)", True)):
            classes = with_model(f"N n({text});", source)
            self.assertEqual(is_refused(instances, classes, "M", []), is_bad, text)
            self.assertEqual(is_refused(instances, library(source), "N", changes(text)), is_bad, text)


class StartTest(unittest.TestCase):
    def starts(self, text):
        found = instances(with_model(text), "M", [])
        return {path: (value_text(entry.start), entry.fixed) for path, entry in found.items() if path[0] in "xde"}

    def test_starts(self):
        self.assertEqual(self.starts("Real x(start = 1 / p); parameter Real p = 3;"), {"x": ("1/3", False)})
        self.assertEqual(self.starts("Real x(start = 2, fixed = b); parameter Boolean b = true;"), {"x": ("2", True)})
        self.assertEqual(self.starts("Real x(fixed = false); discrete Real d(start = 0, fixed = true);"),
                         {"x": (None, False), "d": ("0", True)})
        self.assertEqual(self.starts("discrete Boolean e(start = not b); parameter Boolean b; discrete Boolean d;"),
                         {"e": ("true", False), "d": (None, False)})

    def test_elements(self):
        self.assertEqual(self.starts("Real x[2](start = {1, 2}, fixed = {true, false});"),
                         {"x[1]": ("1", True), "x[2]": ("2", False)})
        self.assertEqual(self.starts("Real x[2](start = p, fixed = true); parameter Real p[2] = {3, 4};"),
                         {"x[1]": ("3", True), "x[2]": ("4", True)})
        self.assertEqual(self.starts("Real x[2](start = 5);"), {"x[1]": ("5", False), "x[2]": ("5", False)})

    def test_starts_that_are_not_right(self):
        for text in ("Real x(start = true);", "Real x(start = 1, fixed = 1);", "Real x(fixed = true);",
                     "Real x(start = y);", "Real x(fixed = 2);", "discrete Boolean e(start = 1);",
                     "Real x(start = {1});", "Real x(start = time);", "Real x[2](start = {1, 2, 3});",
                     "Real x[2](start = 1, fixed = {true});", "Real x(start = 1 / 0);", "Real x(start = x);",
                     "Real x(start = 1, fixed = initial());", "Real y; Real x(start = y);",
                     "discrete Boolean e(fixed = true);", "Real x[2](fixed = {false, true});"):
            self.assertTrue(is_refused(instances, with_model(text), "M", []), text)

    def test_starts_of_components(self):
        more = "model S parameter Real p = 1; Real x(start = p); Real y[2](start = p); end S;"
        source = "S s(x(start = r, fixed = true), y(start = {r, 2})); parameter Real r = 7;"
        found = instances(with_model(source, more), "M", [])
        self.assertEqual([value_text(found[path].start) for path in ("s.x", "s.y[1]", "s.y[2]")], ["7", "7", "2"])
        self.assertEqual([found[path].fixed for path in ("s.x", "s.y[1]")], [True, False])


if __name__ == "__main__":
    unittest.main()
