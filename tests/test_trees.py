"""Points 11 and 12: the trees of expressions in sources."""

import unittest

from building import FALSE, INITIAL, TIME, TRUE, num, shape
from linkwork.syntax import parse_tree


def ref(*parts):
    """A reference; a part is a word, or a pair of a word and an index."""
    return ("ref", tuple((part, None) if isinstance(part, str) else part for part in parts))


A, B, C, D, E = (ref(word) for word in "abcde")

CASES = [
    # Numbers, words and calls.
    ("0", num(0)), ("1", num(1)), ("007", num(7)), ("1.5", num(3, 2)), ("0.10", num(1, 10)), ("2.00", num(2)),
    ("999999999999999.999999999999999", num(10 ** 30 - 1, 10 ** 15)), ("0.000000000000001", num(1, 10 ** 15)),
    ("true", TRUE), ("false", FALSE), ("time", TIME), ("initial()", INITIAL), ("initial ( )", INITIAL),
    ("sample(0, 0.5)", ("sample", num(0), num(1, 2))),
    ("sample(a, if b then c else d)", ("sample", A, ("if", B, C, D))), ("der(a)", ("der", A)),
    ("pre(a.b)", ("pre", ref("a", "b"))), ("size(a[1].b)", ("size", ref(("a", num(1)), "b"))),
    ("sum(a)", ("sum", A)), ("sum({1, 2})", ("sum", ("list", (num(1), num(2))))), ("{a}", ("list", (A,))),
    ("{a, {b, c}, if a then b else c}", ("list", (A, ("list", (B, C)), ("if", A, B, C)))), ("a", A),
    ("a.b.c", ref("a", "b", "c")), ("a[1]", ref(("a", num(1)))),
    ("a[b + 1].c[d].e", ref(("a", ("add", B, num(1))), ("c", D), "e")), ("a . b [ 1 ]", ref("a", ("b", num(1)))),
    ("a[if b then c else d]", ref(("a", ("if", B, C, D)))), ("Real", ref("Real")), ("(a)", A), ("(((a)))", A),
    # Operators, alone.
    ("a or b", ("or", A, B)), ("a and b", ("and", A, B)), ("not a", ("not", A)), ("a == b", ("same", A, B)),
    ("a <> b", ("not", ("same", A, B))), ("a < b", ("less", A, B)), ("a <= b", ("atmost", A, B)),
    ("a > b", ("less", B, A)), ("a >= b", ("atmost", B, A)), ("a + b", ("add", A, B)), ("a - b", ("sub", A, B)),
    ("a * b", ("mul", A, B)), ("a / b", ("div", A, B)), ("-a", ("neg", A)), ("- 1", ("neg", num(1))),
    ("if a then b else c", ("if", A, B, C)),
    # Grouped from the left.
    ("a or b or c", ("or", ("or", A, B), C)), ("a and b and c", ("and", ("and", A, B), C)),
    ("a + b - c + d", ("add", ("sub", ("add", A, B), C), D)), ("a - b - c", ("sub", ("sub", A, B), C)),
    ("a * b / c * d", ("mul", ("div", ("mul", A, B), C), D)), ("a / b / c", ("div", ("div", A, B), C)),
    ("a or (b or c)", ("or", A, ("or", B, C))), ("a - (b - c)", ("sub", A, ("sub", B, C))),
    ("a / (b / c)", ("div", A, ("div", B, C))), ("a and (b and c)", ("and", A, ("and", B, C))),
    # From the weakest to the strongest.
    ("a or b and c", ("or", A, ("and", B, C))), ("a and b or c", ("or", ("and", A, B), C)),
    ("not a and b", ("and", ("not", A), B)), ("a and not b", ("and", A, ("not", B))),
    ("a or not b or c", ("or", ("or", A, ("not", B)), C)), ("not a == b", ("not", ("same", A, B))),
    ("not a <> b", ("not", ("not", ("same", A, B)))), ("not not a", ("not", ("not", A))),
    ("not not not a < b", ("not", ("not", ("not", ("less", A, B))))), ("(not a) == b", ("same", ("not", A), B)),
    ("a < b and c > d", ("and", ("less", A, B), ("less", D, C))),
    ("a + b < c * d", ("less", ("add", A, B), ("mul", C, D))), ("a + b >= c", ("atmost", C, ("add", A, B))),
    ("a + b * c", ("add", A, ("mul", B, C))), ("a * b + c", ("add", ("mul", A, B), C)),
    ("(a + b) * c", ("mul", ("add", A, B), C)), ("a - b / c - d", ("sub", ("sub", A, ("div", B, C)), D)),
    ("(a < b) == (c < d)", ("same", ("less", A, B), ("less", C, D))),
    ("a or b == c + d * e", ("or", A, ("same", B, ("add", C, ("mul", D, E))))),
    # The sign.
    ("-a * b", ("neg", ("mul", A, B))), ("-a / b * c", ("neg", ("mul", ("div", A, B), C))),
    ("-a + b", ("add", ("neg", A), B)), ("-a - b", ("sub", ("neg", A), B)),
    ("-a * b + c", ("add", ("neg", ("mul", A, B)), C)), ("-a < -b", ("less", ("neg", A), ("neg", B))),
    ("a == -b", ("same", A, ("neg", B))), ("not -a < b", ("not", ("less", ("neg", A), B))),
    ("a + (-b)", ("add", A, ("neg", B))), ("a * (-b)", ("mul", A, ("neg", B))),
    ("(-a) * b", ("mul", ("neg", A), B)), ("-(-a)", ("neg", ("neg", A))), ("-(a + b)", ("neg", ("add", A, B))),
    ("a[-1]", ref(("a", ("neg", num(1))))),
    ("-a or -b and -c", ("or", ("neg", A), ("and", ("neg", B), ("neg", C)))),
    ("{-a, -b}", ("list", (("neg", A), ("neg", B)))),
    # If.
    ("if a then b else c + d", ("if", A, B, ("add", C, D))),
    ("if a then b else c or d", ("if", A, B, ("or", C, D))),
    ("(if a then b else c) + d", ("add", ("if", A, B, C), D)),
    ("a + (if b then c else d)", ("add", A, ("if", B, C, D))),
    ("if a or b then c + d else -e", ("if", ("or", A, B), ("add", C, D), ("neg", E))),
    ("if a then if b then c else d else e", ("if", A, ("if", B, C, D), E)),
    ("if a then b else if c then d else e", ("if", A, B, ("if", C, D, E))),
    ("if if a then b else c then d else e", ("if", ("if", A, B, C), D, E)),
    ("not (if a then b else c)", ("not", ("if", A, B, C))), ("sum(if a then b else c)", ("sum", ("if", A, B, C))),
    ("-(if a then b else c)", ("neg", ("if", A, B, C))),
    # Gaps and remarks.
    ("  a// remark\n+\n\nb // remark", ("add", A, B)), ("a+b", ("add", A, B)), ("a<b", ("less", A, B)),
    ("a<>b", ("not", ("same", A, B))), ("1+2", ("add", num(1), num(2))),
]


class TreeTest(unittest.TestCase):
    def test_trees(self):
        for source, wanted in CASES:
            with self.subTest(source=source):
                self.assertEqual(shape(parse_tree(source)), shape(wanted))

    def test_trees_in_parentheses(self):
        for source, wanted in CASES:
            inner = source + "\n"
            self.assertEqual(shape(parse_tree(f"(({inner}))")), shape(wanted))
            self.assertEqual(shape(parse_tree(f"not ({inner})")), shape(("not", wanted)))
            self.assertEqual(shape(parse_tree(f"({inner}) - ({inner})")), shape(("sub", wanted, wanted)))

    def test_trees_inside_of_others(self):
        for source, wanted in CASES:
            inner = source + "\n"
            for form, tree in [
                ("{a, %s}", ("list", (A, wanted))), ("sum(%s)", ("sum", wanted)),
                ("sample(%s, a)", ("sample", wanted, A)),
                ("sample(a, %s)", ("sample", A, wanted)), ("b[%s]", ref(("b", wanted))),
                ("der(b[%s].c)", ("der", ref(("b", wanted), "c"))),
                ("if %s then a else b", ("if", wanted, A, B)), ("if a then %s else b", ("if", A, wanted, B)),
                ("if a then b else %s", ("if", A, B, wanted)),
            ]:
                self.assertEqual(shape(parse_tree(form % inner)), shape(tree))


if __name__ == "__main__":
    unittest.main()
