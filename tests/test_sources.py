"""Points 10 and 12: classes, components, modifications, statements and acts, field by field."""

import unittest

from building import FALSE, INITIAL, TIME, TRUE, containers, num, shape
from linkwork.classes import Class, Component
from linkwork.syntax import parse_source
from test_trees import A, B, C, D, E, ref

ONE = num(1)
EQUAL = ("equal", A, B)

COMPONENTS = [
    ("Real x;", ("", "Real", "x", None, [], None)),
    ("parameter Real x;", ("parameter", "Real", "x", None, [], None)),
    ("discrete Boolean x;", ("discrete", "Boolean", "x", None, [], None)),
    ("input Real x;", ("input", "Real", "x", None, [], None)),
    ("flow Real x;", ("flow", "Real", "x", None, [], None)),
    ("Tank x[3];", ("", "Tank", "x", num(3), [], None)),
    ("Tank x[if a then b else c];", ("", "Tank", "x", ("if", A, B, C), [], None)),
    ("Real x = 1;", ("", "Real", "x", None, [], ONE)),
    ("Real x = if a then b else c;", ("", "Real", "x", None, [], ("if", A, B, C))),
    ("Real x(start = 1);", ("", "Real", "x", None, [("start", ONE)], None)),
    ("parameter Real x[a](b = c) = {d, e};", ("parameter", "Real", "x", A, [("b", C)], ("list", (D, E)))),
]

CHANGES = [
    ("(a = 1)", [("a", ONE)]),
    ("(a = if a then b else c)", [("a", ("if", A, B, C))]),
    ("(a = 1, b = -1)", [("a", ONE), ("b", ("neg", ONE))]),
    ("(a(b = 1))", [("a", [("b", ONE)])]),
    ("(a(b(c = 1, d = a)), e = b, a = c)", [("a", [("b", [("c", ONE), ("d", A)])]), ("e", B), ("a", C)]),
    ("(b = 1, a = 2, a = 3)", [("b", ONE), ("a", num(2)), ("a", num(3))]),
    ("(a = (1))", [("a", ONE)]),
]

# What may stand in both sections.
STATEMENTS = [
    ("a = b;", EQUAL),
    ("a = if b then c else d;", ("equal", A, ("if", B, C, D))),
    ("(if a then b else c) = d;", ("equal", ("if", A, B, C), D)),
    ("a + b == c = not d;", ("equal", ("same", ("add", A, B), C), ("not", D))),
    ("-a = -b;", ("equal", ("neg", A), ("neg", B))),
    ("not a = b;", ("equal", ("not", A), B)),
    ("1 = time;", ("equal", ONE, TIME)),
    ("true = false;", ("equal", TRUE, FALSE)),
    ("time = 1;", ("equal", TIME, ONE)),
    ("initial() = initial();", ("equal", INITIAL, INITIAL)),
    ("sample(1, 2) = sample(1, 2);", ("equal", ("sample", ONE, num(2)), ("sample", ONE, num(2)))),
    ("der(a) = pre(b);", ("equal", ("der", A), ("pre", B))),
    ("pre(a) = der(b);", ("equal", ("pre", A), ("der", B))),
    ("size(a) = sum(b);", ("equal", ("size", A), ("sum", B))),
    ("sum(a) = size(b);", ("equal", ("sum", A), ("size", B))),
    ("{a, b} = {1, time};", ("equal", ("list", (A, B)), ("list", (ONE, TIME)))),
    ("a[b].c = (d);", ("equal", ref(("a", B), "c"), D)),
    ("for a in 1 : b loop end for;", ("for", "a", ONE, B, [])),
    ("for i in if a then b else c : d loop a = b; a = b; end for;", ("for", "i", ("if", A, B, C), D, [EQUAL, EQUAL])),
    ("if a then end if;", ("if", A, [], [])),
    ("if a then else end if;", ("if", A, [], [])),
    ("if a then a = b; end if;", ("if", A, [EQUAL], [])),
    ("if a then else a = b; end if;", ("if", A, [], [EQUAL])),
    ("if if a then b else c then a = b; a = b; else a = b; end if;", ("if", ("if", A, B, C), [EQUAL, EQUAL], [EQUAL])),
    ("for i in a : b loop if c then for j in d : e loop a = b; end for; end if; end for;",
     ("for", "i", A, B, [("if", C, [("for", "j", D, E, [EQUAL])], [])])),
    ("if a then if b then a = b; end if; else if c then else a = b; end if; end if;",
     ("if", A, [("if", B, [EQUAL], [])], [("if", C, [], [EQUAL])])),
]

# What may stand in the section `equation` only.
LIVELY = [
    ("connect(a, b);", ("connect", A, B)),
    ("connect(a[1].b, c.d[e]);", ("connect", ref(("a", ONE), "b"), ref("c", ("d", E)))),
    ("when a then end when;", ("when", A, [])),
    ("when if a then b else c then a = b; end when;", ("when", ("if", A, B, C), [("assign", A, B)])),
    ("when a then reset(b, c); b[1].c = if a then b else c; reset(a[b], if a then b else c); end when;",
     ("when", A, [("reset", B, C), ("assign", ref(("b", ONE), "c"), ("if", A, B, C)),
     ("reset", ref(("a", B)), ("if", A, B, C))])),
    ("for i in 1 : 2 loop connect(a, b); when a then end when; end for;",
     ("for", "i", ONE, num(2), [("connect", A, B), ("when", A, [])])),
    ("if a then connect(a, b); else when a then a = b; end when; end if;",
     ("if", A, [("connect", A, B)], [("when", A, [("assign", A, B)])])),
]


def only(source):
    """The one class of a source."""
    found = parse_source(source)
    assert len(found) == 1
    return found[0]


class ClassTest(unittest.TestCase):
    def check(self, item, *fields):
        self.assertEqual(shape(item), shape(Class(*fields)))
        self.assertEqual(item, Class(*fields))

    def test_sources_without_classes(self):
        for source in ("", "  \n", "// nothing"):
            self.assertEqual(parse_source(source), [])

    def test_small_classes(self):
        self.check(only("model A end A;"), "model", "A", [], [], [], [])
        self.check(only("connector abc end abc;"), "connector", "abc", [], [], [], [])
        self.check(only("model A equation end A;"), "model", "A", [], [], [], [])
        self.check(only("model A initial equation end A;"), "model", "A", [], [], [], [])
        self.check(only("model A equation initial equation end A;"), "model", "A", [], [], [], [])

    def test_several_classes(self):
        found = parse_source("model A end A; connector B Real x; end B;\nmodel A end A; // over")
        self.assertEqual([(item.kind, item.name, len(item.components)) for item in found],
                         [("model", "A", 0), ("connector", "B", 1), ("model", "A", 0)])

    def test_extends_and_components_in_any_order(self):
        item = only("model A Real x; extends B; Real y; extends C(a = 1); extends B; Tank z; equation a = b; "
                    "initial equation a = b; a = b; end A;")
        heads = [("Real", "x"), ("Real", "y"), ("Tank", "z")]
        parts = [Component("", kind, name, None, [], None) for kind, name in heads]
        self.check(item, "model", "A", [("B", []), ("C", [("a", ONE)]), ("B", [])], parts, [EQUAL], [EQUAL, EQUAL])

    def test_components(self):
        for text, fields in COMPONENTS:
            self.check(only(f"model A {text} end A;"), "model", "A", [], [Component(*fields)], [], [])
            self.check(only(f"connector A {text}{text} end A;"), "connector", "A", [], [Component(*fields)] * 2, [], [])

    def test_modifications(self):
        for text, changes in CHANGES:
            self.check(only(f"model A extends B{text}; end A;"), "model", "A", [("B", changes)], [], [], [])
            part = Component("", "Tank", "x", None, changes, None)
            self.check(only(f"model A Tank x{text}; end A;"), "model", "A", [], [part], [], [])
            part = Component("", "Tank", "x", ONE, [("y", changes)], ONE)
            self.check(only(f"model A Tank x[1](y{text}) = 1; end A;"), "model", "A", [], [part], [], [])

    def test_statements(self):
        for text, statement in [*STATEMENTS, *LIVELY]:
            self.check(only(f"model A equation {text} end A;"), "model", "A", [], [], [statement], [])
            self.check(only(f"model A Real x; equation {text} {text} initial equation a = b; end A;"), "model", "A", [],
                       [Component("", "Real", "x", None, [], None)], [statement, statement], [EQUAL])

    def test_initial_statements(self):
        for text, statement in STATEMENTS:
            self.check(only(f"model A initial equation {text} end A;"), "model", "A", [], [], [], [statement])
            self.check(only(f"model A equation a = b; initial equation {text} {text} end A;"), "model", "A", [], [],
                [EQUAL],
                       [statement, statement])

    def test_statements_inside_of_others(self):
        for text, inner in [*STATEMENTS, *LIVELY]:
            for form, statement in [
                ("for i in a : b loop %s end for;", ("for", "i", A, B, [inner])),
                ("if a then %s end if;", ("if", A, [inner], [])),
                ("if a then else %s %s end if;", ("if", A, [], [inner, inner])),
            ]:
                source = form.replace("%s", text)
                self.check(only(f"model A equation {source} end A;"), "model", "A", [], [], [statement], [])
                if (text, inner) in STATEMENTS:
                    self.check(only(f"model A initial equation {source} end A;"), "model", "A", [], [], [], [statement])

    def test_names_are_words_that_are_no_keywords(self):
        self.check(only("model modelA end modelA;"), "model", "modelA", [], [], [], [])
        part = Component("", "Real", "Real", None, [], None)
        self.check(only("model A Real Real; end A;"), "model", "A", [], [part], [], [])

    def test_results_are_not_shared(self):
        source = ("model A extends B(a(b = 1)); Tank x; equation if a then end if; when a then end when; "
                  "initial equation end A;")
        first, second = parse_source(source)[0], parse_source(source)[0]
        self.assertEqual(first, second)
        parts = [tuple(vars(item).values()) + tuple(vars(item.components[0]).values()) for item in (first, second)]
        self.assertFalse(containers(parts[0]) & containers(parts[1]))
        first.extends.clear()
        first.equations[0][3].append(EQUAL)
        self.assertEqual(parse_source(source), [second])


if __name__ == "__main__":
    unittest.main()
