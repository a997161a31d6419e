"""Points 17 and 21: the instances of a model, their kinds, and how many there may be."""

import unittest

from building import containers, shape
from linkwork.instances import instances
from linkwork.systems import Variable
from modelling import changes, is_refused, library, variable_texts

PIN = "connector Pin Real v; flow Real i(start = 1); end Pin;"


def entries(source, name="M", text=None):
    return variable_texts(instances(library(source), name, changes(text) if text else []))


class KindTest(unittest.TestCase):
    def test_kinds(self):
        source = """
            model M
              Real x; discrete Real d; input Real u; parameter Real p = 1 / 3; parameter Integer n = 2;
              parameter Boolean b = true; discrete Boolean e; Pin c; Sub s; input Real w[1];
            end M;
            model Sub input Real u; Real y; Pin c; end Sub;
        """
        self.assertEqual(entries(source + PIN), {
            "x": "state", "d": "discrete", "u": "input", "p": "parameter 1/3", "n": "parameter 2",
            "b": "parameter? true", "e": "discrete?", "c": "Pin", "c.v": "state", "c.i": "state start 1",
            "s": "Sub", "s.u": "state", "s.y": "state", "s.c": "Pin", "s.c.v": "state", "s.c.i": "state start 1",
            "w[1]": "input",
        })

    def test_fields_of_variables(self):
        found = instances(library("model M Real x(start = 1, fixed = true); discrete Boolean b; end M;"), "M", [])
        self.assertIsInstance(found, dict)
        for name, fields in (("x", (False, None, True)), ("b", (True, None, False))):
            self.assertIsInstance(found[name], Variable)
            self.assertEqual((found[name].truth, found[name].value, found[name].fixed), fields)

    def test_an_empty_model(self):
        self.assertEqual(instances(library("model M end M;"), "M", []), {})

    def test_what_is_inherited(self):
        source = "model A Real x; end A; model M extends A; Real y; end M;"
        self.assertEqual(entries(source), {"x": "state", "y": "state"})

    def test_paths(self):
        source = """
            model M A a[2]; B b; end M;
            model A B b[2]; parameter Real p[3] = 4; end A;
            model B Real x[1]; end B;
        """
        expected = {"b": "B", "b.x[1]": "state"}
        for k in (1, 2):
            expected[f"a[{k}]"] = "A"
            for j in (1, 2, 3):
                expected[f"a[{k}].p[{j}]"] = "parameter 4"
            for j in (1, 2):
                expected[f"a[{k}].b[{j}]"] = "B"
                expected[f"a[{k}].b[{j}].x[1]"] = "state"
        self.assertEqual(entries(source), expected)

    def test_nothing_is_modified_or_shared(self):
        classes = library(PIN + "model M Pin c; S s(p = 2); end M; model S parameter Real p; Real x(start = p); end S;")
        given = changes("s(p = 3)")
        before = shape([classes, given])
        first = instances(classes, "M", given)
        second = instances(classes, "M", given)
        self.assertEqual(shape([classes, given]), before)
        self.assertEqual(shape(first), shape(second))
        self.assertFalse(containers(first) & containers(second))

    def test_the_order_of_classes_and_components(self):
        source = """
            model M parameter Real p = q; S s[n](r = p); parameter Real q = 2; parameter Integer n = 2; end M;
            model S parameter Real r; Real x[size(y)](start = r); Real y[3]; end S;
        """
        classes = library(source)
        expected = variable_texts(instances(classes, "M", []))
        self.assertEqual(expected["s[2].x[3]"], "state start 2")
        for item in classes:
            item.components.reverse()
        self.assertEqual(variable_texts(instances(classes[::-1], "M", [])), expected)


class ModelTest(unittest.TestCase):
    def test_the_class_is_a_model_of_the_library(self):
        classes = library("model M end M;" + PIN)
        for name in ("N", "Pin", "Real", "Integer", "Boolean", "", "m"):
            self.assertTrue(is_refused(instances, classes, name, []), name)
        self.assertTrue(is_refused(instances, [], "M", []))

    def test_modifications_of_the_model(self):
        source = """
            model M parameter Integer k = 2; A a(b(r = k)); parameter Real t = 7; end M;
            model A B b(q = 3); parameter Real t = 8; end A;
            model B parameter Real q = 1; parameter Real r = 1; Real x(start = q); end B;
        """
        self.assertEqual(entries(source), {
            "k": "parameter 2", "t": "parameter 7", "a": "A", "a.t": "parameter 8", "a.b": "B",
            "a.b.q": "parameter 3", "a.b.r": "parameter 2", "a.b.x": "state start 3"})
        found = entries(source, text="k = 4, a(b(q = t + 1, x(fixed = true)), t = 5)")
        self.assertEqual(found, {
            "k": "parameter 4", "t": "parameter 7", "a": "A", "a.t": "parameter 5", "a.b": "B",
            "a.b.q": "parameter 8", "a.b.r": "parameter 4", "a.b.x": "state start 8*"})
        self.assertEqual(entries(source, "A", "b(r = t, x(start = b.r + 1))")["b.x"], "state start 9")

    def test_modifications_that_are_refused(self):
        classes = library(PIN + """
            model M Pin c; parameter Real p = 1; Real x; A a; input Real u; discrete Boolean b; end M;
            model A parameter Real q = 1; Real y(start = 1); Pin c; end A;
        """)
        for text in ("p = 2", "x(start = 2)", "x(start = 2, fixed = true)", "a(q = 2)", "a(y(fixed = true))",
                     "b(start = true)", "p = 1, x(start = 1), a(q = 2, y(start = 3))"):
            self.assertFalse(is_refused(instances, classes, "M", changes(text)), text)
        for text in ("z = 1", "x = 1", "a = 1", "c = 1", "u = 1", "b = true", "p = 1, p = 1", "a(q = 1), a(q = 1)",
                     "x(start = 1, start = 1)", "p(start = 1)", "u(start = 1)", "c(v(start = 1))", "a(y = 1)",
                     "a(z = 1)", "a(z(start = 1))", "a(c(v(start = 1)))", "a(q(start = 1))", "x(min = 1)",
                     "x(start(a = 1))"):
            self.assertTrue(is_refused(instances, classes, "M", changes(text)), text)

    def test_modifications_of_what_is_inherited(self):
        source = "model A parameter Real p = 1; end A; model M extends A(p = 2); Real x(start = p); end M;"
        self.assertEqual(entries(source)["x"], "state start 2")
        self.assertEqual(entries(source, text="p = 3")["x"], "state start 3")

    def test_where_trees_belong(self):
        source = """
            model M parameter Real p = 1; A a(q = p); extends B(r = p, c(s = p)); end M;
            model A parameter Real p = 2; parameter Real q = p; parameter Real t = p; end A;
            model B parameter Real r; C c(u = r); end B;
            model C parameter Real p = 3; parameter Real s = p; parameter Real u = p; parameter Real v = p; end C;
        """
        found = entries(source)
        self.assertEqual([found[path] for path in ("a.q", "a.t", "r", "c.s", "c.u", "c.v")],
                         [f"parameter {k}" for k in (1, 2, 1, 1, 1, 3)])


class SizeTest(unittest.TestCase):
    def size(self, text, expected, more="", classes=""):
        found = instances(library(f"model M Real x[{text}]; {more} end M; {classes}"), "M", [])
        paths = {path for path in found if path.startswith("x")}
        self.assertEqual(paths, {f"x[{k}]" for k in range(1, expected + 1)}, text)

    def refused(self, text, more="", classes=""):
        source = f"model M Real x[{text}]; {more} end M; {classes}"
        self.assertTrue(is_refused(instances, library(source), "M", []), text)

    def test_bounds(self):
        for number in (0, 1, 2, 20):
            self.size(str(number), number)
        self.refused("21")
        self.refused("-1")
        for prefix in ("parameter Real", "parameter Integer", "discrete Boolean", "input Real", "A", "C"):
            classes = "model A end A; connector C end C;"
            for number, is_bad in ((0, False), (20, False), (21, True)):
                found = library(f"model M {prefix} x[{number}]; end M;" + classes)
                self.assertEqual(is_refused(instances, found, "M", []), is_bad, prefix)

    def test_whole_expressions(self):
        more = "parameter Integer n = 3; parameter Real r = 3; parameter Integer v[2] = 1; Real y[4]; A a[2]; B b;"
        classes = "model A Real z[n]; parameter Integer n = 5; end A; model B parameter Integer k = 1; end B;"
        for text, expected in (("n", 3), ("2 * n - 1", 5), ("n / 3", 1), ("if n > 3 then 1 else 2", 2), ("size(y)", 4),
                               ("size(a)", 2), ("size(a[1].z)", 5), ("size(a.n)", 2), ("size(v) + n", 5),
                               ("if true then n else nobody", 3), ("size(a[n - 1].z)", 5), ("size(a.z[5])", 2)):
            self.size(text, expected, more, classes)
        for text in ("r", "n / 2", "nobody", "b.k", "v[1]", "v", "y", "size(n)", "size(y[1])", "size(a.z)",
                     "size(a[3].z)", "size(nobody)", "size(a.nobody)", "size(a[1].n)", "size(y[1].z)", "size(n[1])",
                     "1.5", "time", "sum({1, 2})", "{3}", "1 < 2", "if r > 2 then 1 else 2", "size(a.z[6])",
                     "size(b.k)"):
            self.refused(text, more, classes)

    def test_sizes_of_components_with_modifications(self):
        source = """
            model M parameter Integer k = 2; A a(n = k + 1); A b; end M;
            model A parameter Integer n = 1; Real x[n](start = n); end A;
        """
        found = entries(source)
        self.assertEqual([path for path in found if ".x" in path], ["a.x[1]", "a.x[2]", "a.x[3]", "b.x[1]"])
        self.assertEqual(found["a.x[3]"], "state start 3")

    def test_what_has_the_size_0_is_not_looked_at(self):
        source = """
            model M
              parameter Real p[0] = nobody; Real x[n](start = 1 / 0, fixed = true); parameter Integer n = 0;
              A a[n](q = true); parameter Real q[0] = {1, 2}; parameter Real s = sum(a.q) + size(a);
            end M;
            model A parameter Real q = 1 / 0; Real y[99](start = z); parameter Integer n = n; end A;
        """
        self.assertEqual(entries(source), {"n": "parameter 0", "s": "parameter 0"})


class BoundTest(unittest.TestCase):
    def test_300_entries(self):
        # Each A is 21 entries, each B is 3.
        full = "model M A a[13]; B b[7]; Real x[#]; end M; model A Real x[20]; end A; model B Real y; C c; end B;"
        full += "connector C end C;"
        self.assertEqual(len(entries(full.replace("#", "6"))), 13 * 21 + 7 * 3 + 6)
        self.assertTrue(is_refused(instances, library(full.replace("#", "7")), "M", []))

    def test_very_many_entries(self):
        source = "model M A a[20]; end M; model A B b[20]; end A; model B C c[20]; end B; model C Real x[20]; end C;"
        self.assertTrue(is_refused(instances, library(source), "M", []))
        source = "model A0 end A0;" + "".join(f"model A{k} A{k - 1} a; A{k - 1} b; end A{k};" for k in range(1, 60))
        self.assertTrue(is_refused(instances, library(source), "A59", []))
        self.assertEqual(len(instances(library(source), "A7", [])), 2 ** 8 - 2)

    def test_40_integers(self):
        for more, is_bad in (("", False), ("parameter Integer z;", True), ("parameter Integer z[0];", False)):
            source = f"""
                model M parameter Integer n[20] = 1; A a[2]; parameter Integer k; parameter Integer j; {more} end M;
                model A parameter Integer n[9]; parameter Real x[20]; end A;
            """
            self.assertEqual(is_refused(instances, library(source), "M", []), is_bad, more)

    def test_paths_of_80_characters(self):
        words = [c * 19 for c in "abcd"]
        source = f"model M A {words[0]}; end M; model A B {words[1]}; end A; model B C {words[2]}; end B;"
        for last, is_bad in (("d" * 20, False), ("d" * 18 + "[2]", True), ("d" * 17 + "[1]", False), ("d" * 19, False)):
            full = source + f" model C Real {last}; end C;"
            self.assertEqual(is_refused(instances, library(full), "M", []), is_bad, last)
            if not is_bad:
                self.assertEqual(max(map(len, entries(full))), 60 + len(last))
        longer = source.replace("b" * 19, "b" * 20)
        self.assertTrue(is_refused(instances, library(longer + "model C Real " + "d" * 20 + "; end C;"), "M", []))
        self.assertFalse(is_refused(instances, library(longer + "model C Real " + "d" * 19 + "; end C;"), "M", []))

    def test_long_chains_of_values(self):
        rows = []
        for k in range(15):
            first = f"p{k - 1}[20]" if k else "0"
            parts = [first] + [f"p{k}[{j}]" for j in range(1, 20)]
            rows.append(f"parameter Real p{k}[20] = {{{', '.join([part + ' + 1' for part in parts])}}};")
        for order in (rows, rows[::-1]):
            self.assertEqual(entries(f"model M {' '.join(order)} end M;")["p14[20]"], "parameter 300")
        rows = [f"parameter Integer n{k} = n{k + 1} + 1;" for k in range(39)] + ["parameter Integer n39 = 1;"]
        self.assertEqual(entries(f"model M {' '.join(rows)} end M;")["n0"], "parameter 40")


if __name__ == "__main__":
    unittest.main()
