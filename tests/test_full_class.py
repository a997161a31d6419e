"""Point 14: full classes."""

import itertools
import unittest

from building import containers, shape
from linkwork.classes import Class
from linkwork.errors import BadModel
from linkwork.library import full_class
from linkwork.syntax import parse_source

BASE = """
model Base
  parameter Real p = 1;
  Real x(start = 2);
  Part part(q = 3);
equation
  x = p;
initial equation
  x = 1;
end Base;
"""
PART = "model Part parameter Real q = 5; Inner inner(r = 1); end Part; model Inner parameter Real r = 7; end Inner;"
LATER = """
model Middle extends Base(part(q = 4, inner(r = 6)), x(fixed = true), p = 8); Real y; equation y = 2; end Middle;
model Last extends Middle(p = 9, part(inner(r = 5)), y(start = 1)); equation x = y; initial equation y = 3; end Last;
"""


def full(source, name):
    return full_class(parse_source(source), name)


def only(source):
    return parse_source(source)[0]


def lists_of(classes):
    """The identities of all lists in the classes and in their components."""
    found = set()
    for item in classes:
        found |= containers(tuple(vars(item).values()))
        for component in item.components:
            found |= containers(component.changes)
    return found


class FullClassTest(unittest.TestCase):
    def test_a_class_that_extends_none(self):
        for source in (BASE, "connector C Real v(start = 1); flow Real i; end C;", "model A end A;"):
            self.assertEqual(full(source, only(source).name), only(source))

    def test_one_step(self):
        self.assertEqual(full(LATER + BASE + PART, "Middle"), only("""
            model Middle
              parameter Real p = 8;
              Real x(fixed = true, start = 2);
              Part part(inner(r = 6), q = 4);
              Real y;
            equation
              x = p;
              y = 2;
            initial equation
              x = 1;
            end Middle;
        """))

    def test_several_steps_and_any_order_of_the_classes(self):
        expected = only("""
            model Last
              parameter Real p = 9;
              Real x(fixed = true, start = 2);
              Part part(inner(r = 5), q = 4);
              Real y(start = 1);
            equation
              x = p;
              y = 2;
              x = y;
            initial equation
              x = 1;
              y = 3;
            end Last;
        """)
        classes = parse_source(LATER + BASE + PART)
        for order in itertools.permutations(classes):
            self.assertEqual(full_class(list(order), "Last"), expected)

    def test_several_extends(self):
        source = """
            model C Real c; extends B(b = 2); Real d; extends A(a(start = 1)); equation c = 5; end C;
            model A Real a; equation a = 1; end A;
            model B parameter Real b = 1; equation b = 1; initial equation b = 2; end B;
        """
        self.assertEqual(full(source, "C"), only("""
            model C parameter Real b = 2; Real a(start = 1); Real c; Real d;
            equation b = 1; a = 1; c = 5; initial equation b = 2; end C;
        """))

    def test_one_class_extended_on_two_ways(self):
        source = """
            model A equation 1 = 1; end A; model B extends A; equation 2 = 2; end B;
            model C extends A; equation 3 = 3; end C; model D extends C; extends B; extends A; end D;
        """
        self.assertEqual(full(source, "D"), only("model D equation 1 = 1; 3 = 3; 1 = 1; 2 = 2; 1 = 1; end D;"))

    def test_a_tree_for_a_parameter_takes_the_place_of_its_value(self):
        source = """
            model A parameter Real p; parameter Real q = 1; parameter Boolean b[2] = true; end A;
            model B extends A(q = 2, p = 3, b = {true, false}); end B;
        """
        self.assertEqual(full(source, "B"), only(
            "model B parameter Real p = 3; parameter Real q = 2; parameter Boolean b[2] = {true, false}; end B;"))

    def test_a_tree_for_what_is_no_parameter_changes_nothing(self):
        source = """
            model A Real x; discrete Real d(start = 1); B b; end A; model B end B;
            model C extends A(x = 2, d = 3, b = 4); end C;
        """
        self.assertEqual(full(source, "C"), only("model C Real x; discrete Real d(start = 1); B b; end C;"))

    def test_a_tree_and_a_list_of_one_name(self):
        source = "model A parameter Real p = 1; end A; model C extends A(p(start = 2), p = 3); end C;"
        self.assertEqual(full(source, "C"), only("model C parameter Real p(start = 2) = 3; end C;"))

    def test_a_name_that_no_component_has_changes_nothing(self):
        source = "model A Real x; end A; model C extends A(y = 2, z(start = 1)); Real y; parameter Real z; end C;"
        self.assertEqual(full(source, "C"), only("model C Real x; Real y; parameter Real z; end C;"))

    def test_changes_are_in_order(self):
        source = "model A Part p(z = 1, b(y = 1, a = 2), b = 3, a = 4); Real x(start = 1, fixed = true); end A;"
        self.assertEqual(full(source, "A"), only(
            "model A Part p(a = 4, b = 3, b(a = 2, y = 1), z = 1); Real x(fixed = true, start = 1); end A;"))

    def test_connectors(self):
        source = """
            connector A Real v(start = 1); flow Real i; end A;
            connector B extends A(v(fixed = true)); flow Real j; Real w; end B;
        """
        self.assertEqual(full(source, "B"), only(
            "connector B Real v(fixed = true, start = 1); flow Real i; flow Real j; Real w; end B;"))

    def test_no_such_class(self):
        for classes in ([], parse_source(BASE + PART)):
            for name in ("Nobody", "Real", "Integer", "Boolean", "base", ""):
                with self.assertRaises(BadModel):
                    full_class(classes, name)

    def test_nothing_is_modified_or_shared(self):
        source = BASE + PART + LATER + """
            model D extends Base; equation
            for k in 1 : 2 loop if true then x = 1; when true then x = 2; end when; else x = 3; end if; end for; end D;
        """
        classes = parse_source(source)
        before = shape(classes)
        seen = lists_of(classes)
        fulls = [full_class(classes, name) for name in ("Base", "Middle", "Last", "Part", "D", "D")]
        for found in fulls:
            self.assertIsInstance(found, Class)
            self.assertFalse(lists_of([found]) & seen)
            seen |= lists_of([found])
        self.assertEqual(shape(classes), before)

    def test_many_ways_to_one_class(self):
        source = "model A0 end A0;"
        for k in range(1, 60):
            source += f"model A{k} extends A{k - 1}; extends A{k - 1}; end A{k};"
        self.assertEqual(full(source, "A59"), only("model A59 end A59;"))

    def test_a_full_class_is_its_own_full_class(self):
        classes = parse_source(LATER + BASE + PART)
        for item in classes:
            found = full_class(classes, item.name)
            self.assertEqual(full_class([found] + [other for other in classes if other.name != item.name], item.name),
                             found)


if __name__ == "__main__":
    unittest.main()
