"""Point 27: the connections of flat systems."""

import unittest

from building import shape
from linkwork.flat import flatten
from linkwork.library import full_class
from linkwork.syntax import parse_source
from modelling import equation_texts, library, system_texts

PIN = "connector Pin Real v; flow Real i; end Pin;"
TWO = "model Two Pin p; Pin n; end Two;" + PIN


def lines(source, name="M"):
    return equation_texts(flatten(library(source), name, []).equations)


class JointTest(unittest.TestCase):
    def test_ends_without_connections(self):
        self.assertEqual(lines("model M Two t; end M;" + TWO), {"c.t.n.i": "@t.n.i = 0", "c.t.p.i": "@t.p.i = 0"})
        self.assertEqual(lines("model M Pin q[2]; Two t[0]; end M;" + TWO),
                         {"c.q[1].i": "@q[1].i = 0", "c.q[2].i": "@q[2].i = 0"})

    def test_inside_ends(self):
        self.assertEqual(lines("model M Two a; Two b; equation connect(a.n, b.p); end M;" + TWO), {
            "c.a.n.i": "add(@a.n.i,@b.p.i) = 0", "c.b.p.v": "@a.n.v = @b.p.v", "c.a.p.i": "@a.p.i = 0",
            "c.b.n.i": "@b.n.i = 0"})

    def test_outside_ends(self):
        source = "model M Sub s; end M; model Sub Pin q; Two t; equation connect(q, t.p); end Sub;" + TWO
        inner = {"c.s.t.p.v": "@s.q.v = @s.t.p.v", "c.s.q.i.o": "add(neg(@s.q.i),@s.t.p.i) = 0",
                 "c.s.t.n.i": "@s.t.n.i = 0"}
        self.assertEqual(lines(source), {**inner, "c.s.q.i": "@s.q.i = 0"})
        own = {"c.t.p.v": "@q.v = @t.p.v", "c.q.i.o": "add(neg(@q.i),@t.p.i) = 0", "c.t.n.i": "@t.n.i = 0"}
        self.assertEqual(lines(source, "Sub"), {**own, "c.q.i": "@q.i = 0"})

    def test_outside_ends_of_several_instances(self):
        source = """
            model M Sub s[2]; equation connect(s[1].q, s[2].q); end M;
            model Sub Pin q; Pin r; Two t; equation connect(q, t.p); connect(r, q); end Sub;
        """ + TWO
        expected = {"c.s[1].q.i": "add(@s[1].q.i,@s[2].q.i) = 0", "c.s[2].q.v": "@s[1].q.v = @s[2].q.v"}
        for path in ("s[1]", "s[2]"):
            expected.update({
                f"c.{path}.r.i": f"@{path}.r.i = 0", f"c.{path}.t.n.i": f"@{path}.t.n.i = 0",
                f"c.{path}.q.i.o": f"add(add(neg(@{path}.q.i),neg(@{path}.r.i)),@{path}.t.p.i) = 0",
                f"c.{path}.r.v.o": f"@{path}.q.v = @{path}.r.v", f"c.{path}.t.p.v": f"@{path}.q.v = @{path}.t.p.v"})
        self.assertEqual(lines(source), expected)

    def test_connectors_of_the_model_itself(self):
        self.assertEqual(lines("model M Pin q; Pin r; Pin s; Two t; equation connect(q, r); end M;" + TWO), {
            "c.q.i": "@q.i = 0", "c.r.i": "@r.i = 0", "c.s.i": "@s.i = 0", "c.q.i.o": "add(neg(@q.i),neg(@r.i)) = 0",
            "c.r.v.o": "@q.v = @r.v", "c.t.p.i": "@t.p.i = 0", "c.t.n.i": "@t.n.i = 0"})

    def test_an_end_connected_with_itself(self):
        self.assertEqual(lines("model M Pin q; equation connect(q, q); end M;" + PIN), {"c.q.i": "@q.i = 0"})
        self.assertEqual(lines("model M Two t; equation connect(t.p, t.p); end M;" + TWO),
                         {"c.t.p.i": "@t.p.i = 0", "c.t.n.i": "@t.n.i = 0"})

    def test_connections_that_change_nothing(self):
        source = "model M Two a; Two b; equation connect(a.n, b.p); # end M;" + TWO
        expected = lines(source.replace("#", ""))
        for more in ("connect(a.n, b.p);", "connect(b.p, a.n);", "connect(b.p, b.p);",
                     "if false then connect(x, y); end if;"):
            self.assertEqual(lines(source.replace("#", more)), expected)

    def test_arrays(self):
        source = """
            model M Two t[2]; Many m; equation connect(t.p, m.q); connect(m.q[2], t[1].n); end M;
            model Many Pin q[2]; end Many;
        """ + TWO
        self.assertEqual(lines(source), {
            "c.m.q[1].i": "add(@m.q[1].i,@t[1].p.i) = 0", "c.t[1].p.v": "@m.q[1].v = @t[1].p.v",
            "c.m.q[2].i": "add(add(@m.q[2].i,@t[1].n.i),@t[2].p.i) = 0", "c.t[1].n.v": "@m.q[2].v = @t[1].n.v",
            "c.t[2].p.v": "@m.q[2].v = @t[2].p.v", "c.t[2].n.i": "@t[2].n.i = 0"})

    def test_arrays_of_outside_ends(self):
        source = "model M Sub s; end M; model Sub Pin q[2]; Two t[2]; equation connect(q, t.n); end Sub;" + TWO
        found = lines(source)
        for k in (1, 2):
            self.assertEqual(found[f"c.s.q[{k}].i.o"], f"add(neg(@s.q[{k}].i),@s.t[{k}].n.i) = 0")
            self.assertEqual(found[f"c.s.t[{k}].n.v"], f"@s.q[{k}].v = @s.t[{k}].n.v")
            self.assertEqual(found[f"c.s.q[{k}].i"], f"@s.q[{k}].i = 0")
        self.assertEqual(len(found), 8)

    def test_no_elements(self):
        source = "model M Two t[0]; Pin q[0]; Many m; equation connect(t.p, q); connect(q, m.q); end M;"
        self.assertEqual(lines(source + "model Many Pin q[n]; parameter Integer n; end Many;" + TWO), {})

    def test_connections_in_loops_and_ifs(self):
        source = """
            model M parameter Integer n = 3; Two t[n]; equation
            for k in 1 : n loop
              if k < n then connect(t[k].n, t[k + 1].p); else connect(t[k].n, t[1].p); end if;
            end for;
            end M;
        """ + TWO
        expected = {}
        for first, second in (("t[1].n", "t[2].p"), ("t[2].n", "t[3].p")):
            expected[f"c.{first}.i"] = f"add(@{first}.i,@{second}.i) = 0"
            expected[f"c.{second}.v"] = f"@{first}.v = @{second}.v"
        expected["c.t[1].p.i"] = "add(@t[1].p.i,@t[3].n.i) = 0"
        expected["c.t[3].n.v"] = "@t[1].p.v = @t[3].n.v"
        self.assertEqual(lines(source), expected)

    def test_connects_count_as_statements(self):
        source = "model M Two t; Real x; equation x = 1; connect(t.p, t.n); x = 2; end M;" + TWO
        self.assertEqual([name for name in lines(source) if name[0] == "e"], ["e1", "e3"])

    def test_several_fields_and_classes_of_connectors(self):
        source = """
            connector C flow Real i; Real v; Real w; flow Real j; end C;
            connector D extends E; flow Real j; Real w; end D;
            connector E Real v; flow Real i; end E; model A C c; end A; model B D d; end B; connector F end F;
            model M A a; B b; F f; G g; equation connect(b.d, a.c); connect(f, g.f); end M; model G F f; end G;
        """
        self.assertEqual(lines(source), {
            "c.a.c.i": "add(@a.c.i,@b.d.i) = 0", "c.a.c.j": "add(@a.c.j,@b.d.j) = 0", "c.b.d.v": "@a.c.v = @b.d.v",
            "c.b.d.w": "@a.c.w = @b.d.w"})

    def test_fields_can_be_named(self):
        source = "model M Two t; Pin q; Two ts[2]; equation t.p.v = q.v + sum(ts.p.i); end M;" + TWO
        self.assertEqual(lines(source)["e1"], "@t.p.v = add(@q.v,add(@ts[1].p.i,@ts[2].p.i))")


class OrderTest(unittest.TestCase):
    SOURCE = """
        model M extends Base(k = 2); Sub s[k](r = 3); Pin q; Two t; Real x(start = 1, fixed = true); equation
          connect(q, s[1].a); connect(s[1].b, s[2].a); connect(t.p, s[2].b); connect(s[2].a, t.n); x = s[2].a.v;
          for k in 1 : 2 loop connect(s[k].a, t.p); end for; when x > 1 then s[1].d = x; end when; end M;
        model Base parameter Integer k = 1; Real y; equation y = k * time; initial equation y = 2; end Base;
        model Sub Pin a; Pin b; parameter Real r = 1; Two t; Two u; discrete Real d; equation
          connect(a, t.p); connect(t.n, u.p); connect(u.n, b); a.v = r * b.i; end Sub;
        model Two Pin p; Pin n; equation p.i + n.i = 0; end Two;
        connector Pin Real v(start = 2); flow Real i; end Pin;
    """

    def texts(self, classes):
        return system_texts(flatten(classes, "M", []))

    def test_classes_and_components(self):
        classes = parse_source(self.SOURCE)
        expected = self.texts(classes)
        total = "neg(@q.i)"
        for path in ("s[1].a", "s[1].b", "s[2].a", "s[2].b", "t.n", "t.p"):
            total = f"add({total},@{path}.i)"
        self.assertEqual(expected["equations"]["c.q.i.o"], total + " = 0")
        for item in classes:
            item.components.reverse()
        self.assertEqual(self.texts(classes), expected)
        self.assertEqual(self.texts(classes[::-1]), expected)
        self.assertEqual(self.texts(classes[2:] + classes[:2]), expected)

    def test_the_references_of_connects(self):
        expected = self.texts(parse_source(self.SOURCE))
        classes = parse_source(self.SOURCE)

        def turned(statements):
            found = []
            for statement in statements:
                if statement[0] == "connect":
                    statement = ("connect", statement[2], statement[1])
                if statement[0] == "for":
                    statement = (*statement[:4], turned(statement[4]))
                found.append(statement)
            return found

        for item in classes:
            item.equations = turned(item.equations)
        self.assertNotEqual(shape(classes), shape(parse_source(self.SOURCE)))
        self.assertEqual(self.texts(classes), expected)

    def test_the_order_of_connects(self):
        expected = self.texts(parse_source(self.SOURCE))
        classes = parse_source(self.SOURCE)
        for item in classes:
            places = [k for k, statement in enumerate(item.equations) if statement[0] == "connect"]
            moved = [item.equations[k] for k in places][::-1]
            for k, statement in zip(places, moved):
                item.equations[k] = statement
        self.assertEqual(self.texts(classes), expected)

    def test_a_full_class_in_place_of_its_class(self):
        classes = parse_source(self.SOURCE)
        expected = self.texts(classes)
        for k, item in enumerate(classes):
            replaced = classes[:k] + [full_class(classes, item.name)] + classes[k + 1:]
            self.assertEqual(self.texts(replaced), expected, item.name)


if __name__ == "__main__":
    unittest.main()
