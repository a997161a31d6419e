"""Point 22: texts of expressions, both ways."""

import unittest

from building import FALSE, INITIAL, TIME, TRUE, num, pre, shape, tower, var, wide
from linkwork.errors import BadText, TooLarge
from linkwork.expressions import expression_text, read_expression, size
from linkwork.ratios import Ratio
from test_expressions import GOOD

TEXTS = [
    (num(1), "1"), (num(-2, 3), "-2/3"), (TRUE, "true"), (FALSE, "false"), (TIME, "time"), (INITIAL, "initial"),
    (var("x"), "@x"), (var("a.b[2]", 4), "@a.b[2]''''"), (pre("a.b"), "pre@a.b"),
    (("sample", Ratio(-1, 2), Ratio(3)), "sample(-1/2,3)"), (("neg", num(1)), "neg(1)"),
    (("add", num(1), var("x", 1)), "add(1,@x')"), (("sub", TIME, num(-1)), "sub(time,-1)"),
    (("mul", num(1), num(2)), "mul(1,2)"), (("div", num(1), num(2)), "div(1,2)"), (("not", TRUE), "not(true)"),
    (("and", TRUE, INITIAL), "and(true,initial)"), (("or", TRUE, FALSE), "or(true,false)"),
    (("less", num(1), num(2)), "less(1,2)"), (("atmost", num(1), num(2)), "atmost(1,2)"),
    (("same", var("x"), pre("x")), "same(@x,pre@x)"), (("if", TRUE, num(1), num(2)), "if(true,1,2)"),
    (("not", ("sample", Ratio(0), Ratio(1))), "not(sample(0,1))"),
    (("if", var("t"), ("neg", ("add", num(1), num(2))), TIME), "if(@t,neg(add(1,2)),time)"),
]

NO_TEXTS = [
    "", " ", "()", "(1)", "1 ", " 1", "1,2", "1)", "(1", "neg", "neg(", "neg()", "neg(1", "neg(1))", "neg(1),",
    ",neg(1)", "neg(1)(2)", "neg(1)1", "neg(1)neg(1)", "neg(,1)", "neg(1,)", "neg(1,2)", "neg((1))", "neg (1)",
    "neg( 1)", "neg(1 )", "Neg(1)", "add(1)", "add(1,2,3)", "add(1,,2)", "add(1, 2)", "add(1;2)", "if(true,1)",
    "if(true,1,2,3)", "foo(1)", "foo", "num(1)", "truth(true)", "time()", "time(1)", "initial()", "var(1)",
    "pre(1)", "(1,2)", "sample", "sample()", "sample(1)", "sample(0,1,2)", "sample(0,0)", "sample(0,-1)",
    "sample(0,neg(1))", "sample(neg(0),1)", "sample(time,1)", "sample(0,true)", "sample(0,@x)", "sample(0,1",
    "sample(0,2/4)", "sample(00,1)", "sample((0,1))", "01", "-0", "2/4", "1/1", "+1", "1.5", "--1", "True", "TRUE",
    "@", "@'", "@1", "@_x", "@x'''''", "@'x", "@x'y", "@x' '", "@@x", "@x@", "x", "x'", "pre@", "pre@x'", "pre@1",
    "pre x", "pre@pre@x", "Pre@x", "@" + "a" * 81, "pre@" + "a" * 81, "@\u00e4", "\u0661", "@x\n", "\n",
    # The kinds do not fit.
    "neg(true)", "not(1)", "add(1,true)", "and(1,true)", "and(true,1)", "same(1,true)", "if(1,1,1)",
    "if(true,1,true)", "less(initial,1)", "not(@x')", "neg(same(1,1))", "neg(if(@x,@x,true))",
    "same(if(@c,@x,1),true)",
]


class WritingTest(unittest.TestCase):
    def test_texts(self):
        for expression, text in TEXTS:
            before = shape(expression)
            self.assertEqual(expression_text(expression), text)
            self.assertEqual(shape(expression), before)

    def test_no_two_expressions_have_the_same_text(self):
        texts = [expression_text(expression) for expression in GOOD]
        self.assertEqual(len(set(texts)), len(texts))


class ReadingTest(unittest.TestCase):
    def check_wrong(self, line, error=BadText):
        with self.assertRaises(error, msg=line[:80]) as caught:
            read_expression(line)
        if error is BadText:
            self.assertEqual(caught.exception.at, 0)

    def test_texts_are_read_back(self):
        for expression in [*[pair[0] for pair in TEXTS], *GOOD]:
            self.assertEqual(shape(read_expression(expression_text(expression))), shape(expression))

    def test_lines_that_are_no_texts(self):
        for line in NO_TEXTS:
            self.check_wrong(line)

    def test_each_character_counts(self):
        for _, text in TEXTS:
            for k in range(len(text)):
                for changed in (text[:k] + text[k + 1:], text[:k] + text[k] + text[k:]):
                    self.check_read_back_or_refused(changed)

    def check_read_back_or_refused(self, line):
        try:
            expression = read_expression(line)
        except BadText as error:
            self.assertEqual(error.at, 0)
        else:
            self.assertEqual(expression_text(expression), line)

    def test_long_names(self):
        for name in ("a" * 80, "a" + "[]._9" * 15):
            self.assertEqual(read_expression("@" + name), var(name))
            self.assertEqual(read_expression("pre@" + name), pre(name))

    def test_long_numbers(self):
        text = "1" + "23" * 3000 + "/" + "1" + "0" * 5000
        self.assertEqual(expression_text(read_expression(f"neg({text})")), f"neg({text})")

    def test_sizes(self):
        self.assertEqual(shape(read_expression(expression_text(wide(199)))), shape(wide(199)))
        whole = ("neg", wide(199))
        self.assertEqual(size(whole), 200)
        self.assertEqual(shape(read_expression(expression_text(whole))), shape(whole))
        self.check_wrong(expression_text(wide(201)), TooLarge)
        self.check_wrong(expression_text(("neg", whole)), TooLarge)

    def test_samples_count_once(self):
        sample = ("sample", Ratio(0), Ratio(1))
        parts = [sample for _ in range(100)]
        while len(parts) > 1:
            pairs = [("and", parts[k], parts[k + 1]) for k in range(0, len(parts) - 1, 2)]
            parts = pairs + parts[len(pairs) * 2:]
        self.assertEqual(shape(read_expression(expression_text(("not", parts[0])))), shape(("not", parts[0])))
        self.check_wrong(expression_text(("not", ("not", parts[0]))), TooLarge)

    def test_depths(self):
        for levels in (29, 30):
            self.assertEqual(shape(read_expression(expression_text(tower(levels)))), shape(tower(levels)))
        self.check_wrong(expression_text(tower(31)), TooLarge)
        deepest = ("not", ("sample", Ratio(0), Ratio(1)))
        self.check_wrong("not(" * 29 + expression_text(deepest) + ")" * 29, TooLarge)
        self.assertEqual(size(read_expression("not(" * 28 + expression_text(deepest) + ")" * 28)), 30)

    def test_huge_lines(self):
        many = 50000
        self.check_wrong("neg(" * many + "1" + ")" * many, TooLarge)
        self.check_wrong("neg(" * many + "1" + ")" * (many - 1))
        self.check_wrong("neg(" * many + "1" + ")" * (many + 1))
        self.check_wrong("neg(" * many + "true" + ")" * many)
        self.check_wrong("neg(" * many + ")" * many)
        self.check_wrong("add(1," * many + "1" + ")" * many, TooLarge)
        self.check_wrong("add(1," * many + "01" + ")" * many)

    def test_no_text_goes_before_too_large(self):
        self.check_wrong("add(" + expression_text(tower(40)) + ",true)")
        self.check_wrong("add(" + expression_text(wide(301)) + ",@x''''')")


if __name__ == "__main__":
    unittest.main()
