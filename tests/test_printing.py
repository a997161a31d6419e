"""Points 10 to 12: texts of trees and of sources are read back as the same."""

import random
import unittest

from building import num, shape
from linkwork.errors import BadText, TooLarge
from linkwork.printing import source_text, tree_text
from linkwork.syntax import parse_source, parse_tree
from places import E_PLACES, REF_PLACES
from test_bounds import FORMS, REFS, TREES, nested
from test_sources import CHANGES, COMPONENTS, LIVELY, STATEMENTS
from test_trees import CASES, ref

SHORT = [
    "a", "1.5", "0.001", "12", "true", "time", "initial()", "sample(0, a)", "der(a.b[1])", "pre(a)", "size(a)",
    "sum({a, -1})", "a + b - c", "a - (b - c)", "a * b / c", "a / (b / c)", "(a + b) * c", "-a * b", "(-a) * b",
    "-a + b", "a + (-b)", "-(-a)", "-(a + b)", "a < b", "a <= -b", "a == b", "(a < b) == (c < d)", "not a < b",
    "not not a", "(not a) == b", "a and b or c", "a and (b or c)", "not (a and b)", "a or (b or c)",
    "if a then b else c + d", "(if a then b else c) + d", "if a then if b then c else d else if e then a else b",
    "not (if a then b else c)", "{if a then b else c}", "a[if b then c else d].b", "a[1].b.c[d - 1]", "a or b or c",
    "a or b and c", "a or not b", "a and b and c", "a and not b and c", "a and b < c", "not a and not b",
    "not a == b", "a + b == c + d", "a - b < c - d", "-a <= -b", "a * b < c / d", "a + b * c - d / a", "-a * b - c",
    "-a / b", "a * b * c", "a / b / c", "a - b - c", "(a or b) and c", "(a and b) == c", "(a < b) < c",
    "a < (b < c)", "(a + b) / c", "a * (b + c)", "a * (b * c)", "a + (b - c)", "-(a - b)",
    "(if a then b else c) or d", "a and (if a then b else c)",
]

SOURCE = """model A
  extends B;
  extends C(a = 1, b(c = -2));
  Real x;
  parameter Tank y[3](a = 1) = {1, 2, 3};
equation
  a or b = c and d;
  not a = -b;
  (if a then b else c) = if a then b else c;
  connect(a[1].b, c);
  for i in 1 : 2 loop
    if a then
    else
      a = b;
    end if;
  end for;
  if a then
    a = b;
  end if;
  when a then
    a = b;
    reset(c, d);
  end when;
initial equation
  a = b;
end A;
connector B
end B;
"""

BINARY = ("add", "sub", "mul", "div", "and", "or", "less", "atmost", "same")
LEAVES = (num(0), num(7), num(1, 8), num(10 ** 15 - 1), num(123, 1000), ("truth", True), ("time",), ("initial",),
    ref("a", "b"))


def some_tree(source, depth):
    """A tree of at most this depth, of every form."""
    if depth == 1:
        return source.choice(LEAVES)
    kind = source.randrange(12)
    if kind < 6:
        return (source.choice(BINARY), some_tree(source, depth - 1), some_tree(source, source.randint(1, depth - 1)))
    if kind < 8:
        return (source.choice(("neg", "not", "sum")), some_tree(source, depth - 1))
    if kind == 8:
        return ("if", *[some_tree(source, source.randint(1, depth - 1)) for _ in range(3)])
    if kind == 9:
        return ("list", tuple(some_tree(source, source.randint(1, depth - 1)) for _ in range(source.randint(1, 3))))
    if kind == 10:
        return ("sample", some_tree(source, depth - 1), some_tree(source, 1))
    inner = ref("a", ("b", some_tree(source, depth - 1)), "c")
    return inner if source.random() < 0.5 else (source.choice(("der", "pre", "size")), inner)


class TreeTextTest(unittest.TestCase):
    def check(self, tree):
        before = shape(tree)
        text = tree_text(tree)
        self.assertEqual(shape(parse_tree(text)), before, text)
        self.assertEqual(shape(tree), before)
        self.assertIsInstance(text, str)

    def test_all_forms(self):
        for _, tree in CASES:
            self.check(tree)

    def test_all_forms_inside_of_all_others(self):
        for _, inner in CASES:
            for _, outer in CASES:
                for k in range(1, len(outer)):
                    if outer[0] not in ("num", "truth", "ref", "list", "der", "pre", "size"):
                        self.check((*outer[:k], inner, *outer[k + 1:]))

    def test_few_parentheses(self):
        for text in SHORT:
            self.assertEqual(tree_text(parse_tree(text)), text)

    def test_numbers(self):
        for text in ("0", "1", "10", "0.1", "0.10", "100.001", "000.5", "9" * 15 + "." + "9" * 15,
            "0." + "0" * 14 + "1",
                     "1" + "0" * 14, "5." + "0" * 15):
            self.check(parse_tree(text))

    def test_trees_of_random_forms(self):
        source = random.Random(5)
        for depth in (2, 3, 4, 5, 6):
            for _ in range(300):
                self.check(some_tree(source, depth))

    def test_nesting_up_to_the_bound(self):
        for form in FORMS:
            for other in FORMS:
                # Some forms are 3 deep: parentheses instead of more of them keep the tree within its depth.
                self.check(parse_tree(nested(form, nested("(HERE)", nested(other, "w", 5), 10), 4)))
        for text in ("(a + HERE)", "a * (HERE)", "-(HERE)", "(HERE) / a", "a - (b - (HERE))",
            "if a then (HERE) else (b)",
                     "not (not (HERE))", "(HERE) < a", "a + (if b then c else (HERE))", "{HERE}", "sum(HERE)",
                     "w[HERE]"):
            for many in range(1, 20):
                self.check_if_it_can_be_read(nested(text, "w", many))

    def check_if_it_can_be_read(self, text):
        try:
            tree = parse_tree(text)
        except (BadText, TooLarge):
            return
        self.check(tree)

    def test_trees_at_the_bounds(self):
        for text, is_small in [*TREES, *REFS]:
            if is_small:
                self.check(parse_tree(text))


class SourceTextTest(unittest.TestCase):
    def check(self, source):
        classes = parse_source(source)
        before = shape(classes)
        text = source_text(classes)
        self.assertEqual(shape(parse_source(text)), before, text)
        self.assertEqual(parse_source(text), classes)
        self.assertEqual(shape(classes), before)

    def test_sources_without_classes(self):
        self.check("")
        self.assertEqual(source_text([]), "")

    def test_rows(self):
        self.assertEqual(source_text(parse_source(SOURCE)), SOURCE)

    def test_classes(self):
        for source in ["model A end A;", "connector A end A;", "model A equation end A;",
                       "model A initial equation end A;",
                       "model A end A; connector B Real x; flow Real y; end B;",
                       "model A extends C; Real x; extends D(a = 1); end A;",
                       "model A equation a = b; initial equation a = b; end A;"]:
            self.check(source)

    def test_components_and_modifications(self):
        for text, _ in COMPONENTS:
            self.check(f"model A {text} {text} end A;")
        for text, _ in CHANGES:
            self.check(f"model A extends B{text}; Tank x{text}; parameter Real y[3]{text} = 1; end A;")

    def test_statements(self):
        for text, _ in [*STATEMENTS, *LIVELY]:
            for form in ("HERE", "HERE HERE", "for i in 1 : 2 loop HERE HERE end for;", "if a then HERE end if;",
                         "if a then HERE else HERE end if;", "if a then else HERE end if;"):
                self.check("model A equation " + form.replace("HERE", text) + " end A;")
                if (text, _) in STATEMENTS:
                    self.check("model A initial equation " + form.replace("HERE", text) + " end A;")

    def test_trees_at_every_place(self):
        for place in E_PLACES:
            for text, _ in CASES:
                # An if on the left of a "=" stands in parentheses only.
                self.check(place.replace("HERE", f"({text}\n)" if "HERE = " in place else text + "\n"))
        for place in REF_PLACES:
            for text in ("a", "a.b", "a[1]", "a[-b + 1].c[if a then b else c]"):
                self.check(place.replace("HERE", text))

    def test_nesting_up_to_the_bound(self):
        deep = nested("(HERE + 1)", "w", 18)
        self.check("model A equation " + nested("if w then HERE else w = w; end if;", f"{deep} = {deep};",
            19) + " end A;")
        self.check("model A initial equation " + nested("for i in 1 : 2 loop HERE w = 1; end for;", "", 19) + " end A;")
        self.check("model A Tank x(" + nested("w(a = 1, HERE)", f"b = {deep}", 19) + "); end A;")


if __name__ == "__main__":
    unittest.main()
