"""Points 5 and 7: forms of expressions, sizes, depths, names, and what uses them."""

import unittest

from building import FALSE, INITIAL, TIME, TRUE, num, pre, shape, tower, var, wide
from linkwork.expressions import depth, is_expression, renamed, size, uses
from linkwork.ratios import Ratio

ONE, TWO, X = num(1), num(2), var("x")

GOOD = [
    ONE, num(-7, 3), TRUE, FALSE, TIME, INITIAL, X, var("x", 4), pre("x"),
    ("sample", Ratio(0), Ratio(1)), ("sample", Ratio(-1, 2), Ratio(1, 3)),
    ("neg", ONE), ("add", ONE, X), ("sub", X, ONE), ("mul", X, X), ("div", ONE, num(0)),
    ("not", TRUE), ("and", TRUE, X), ("or", X, FALSE), ("less", ONE, TIME), ("atmost", X, ONE),
    ("same", ONE, TWO), ("same", TRUE, INITIAL), ("same", X, TRUE), ("same", ONE, X), ("same", X, pre("y")),
    ("if", TRUE, ONE, TWO), ("if", X, TRUE, FALSE), ("if", X, X, ONE), ("if", X, TRUE, X), ("if", X, X, X),
    ("neg", ("if", X, X, X)), ("not", ("if", X, X, X)), ("neg", ("if", X, X, ONE)),
    ("not", ("if", X, TRUE, X)), ("same", ("if", X, X, X), TRUE), ("not", X), ("neg", X), ("add", pre("x"), ONE),
    ("same", ("same", X, X), ("less", X, X)), ("and", ("sample", Ratio(0), Ratio(1)), INITIAL),
    # The kinds are told place by place, so x may be both.
    ("if", X, ("neg", X), X),
]

WRONG_FORMS = [
    (), [], None, True, 1, "num", Ratio(1), ("nothing",), ("nothing", ONE), (1,), (None,), ((),), (["num"], Ratio(1)),
    ("Num", Ratio(1)), ("num ", Ratio(1)), ("",), (ONE,), (True, ONE),
    ("num",), ("num", 1), ("num", True), ("num", None), ("num", "1"), ("num", ONE), ("num", Ratio(1), Ratio(1)),
    ["num", Ratio(1)],
    ("truth",), ("truth", 1), ("truth", 0), ("truth", Ratio(1)), ("truth", "true"), ("truth", None),
    ("truth", True, False), ["truth", True],
    ("time", ONE), ("time", None), ["time"], "time", ("initial", TRUE), ("initial", 0), ["initial"],
    ("var",), ("var", "x"), ("var", "x", 0, 0), ("var", 0, "x"), ("var", "x", "0"), ("var", "x", None),
    ("var", "x", True), ("var", "x", False), ("var", "x", Ratio(1)), ("var", "x", -1), ("var", "x", 5),
    ("var", None, 0), ("var", ("x",), 0), ["var", "x", 0],
    ("pre",), ("pre", "x", 0), ("pre", 1), ("pre", None), ("pre", ["x"]), ["pre", "x"],
    ("sample",), ("sample", Ratio(1)), ("sample", Ratio(1), Ratio(1), Ratio(1)), ("sample", 0, Ratio(1)),
    ("sample", Ratio(0), 1), ("sample", Ratio(0), True), ("sample", ONE, ONE), ("sample", Ratio(0), Ratio(0)),
    ("sample", Ratio(0), Ratio(-1)), ["sample", Ratio(0), Ratio(1)],
]

WRONG_KINDS = [
    ("neg", TRUE), ("add", TRUE, ONE), ("add", ONE, TRUE), ("sub", TRUE, ONE), ("sub", ONE, INITIAL),
    ("mul", TRUE, ONE), ("mul", ONE, TRUE), ("div", TRUE, ONE), ("div", ONE, TRUE), ("not", ONE), ("not", TIME),
    ("and", ONE, TRUE), ("and", TRUE, ONE), ("or", ONE, TRUE), ("or", TRUE, ONE), ("less", TRUE, ONE),
    ("less", ONE, TRUE), ("atmost", TRUE, ONE), ("atmost", ONE, FALSE), ("same", ONE, TRUE), ("same", TRUE, ONE),
    ("same", INITIAL, TIME), ("if", ONE, ONE, ONE), ("if", TRUE, ONE, TRUE), ("if", TRUE, TRUE, ONE),
    ("not", var("x", 1)), ("and", TRUE, var("x", 4)), ("same", var("x", 1), TRUE), ("if", var("x", 1), ONE, ONE),
    ("neg", ("less", ONE, ONE)), ("neg", ("atmost", ONE, ONE)), ("neg", ("same", X, X)), ("neg", ("not", X)),
    ("neg", ("and", X, X)), ("neg", ("or", X, X)), ("neg", ("sample", Ratio(0), Ratio(1))), ("neg", INITIAL),
    ("not", ("neg", X)), ("not", ("add", X, X)), ("not", ("sub", X, X)), ("not", ("mul", X, X)), ("not", ("div", X, X)),
    ("neg", ("if", X, TRUE, X)), ("not", ("if", X, X, ONE)), ("same", ("if", X, X, ONE), TRUE),
    ("if", X, ("if", X, X, TRUE), ("if", X, ONE, X)), ("add", ONE, ("neg", ("add", ONE, ("neg", TRUE)))),
]

OPERATORS = {
    "neg": (ONE,), "add": (ONE, TWO), "sub": (ONE, TWO), "mul": (ONE, TWO), "div": (ONE, TWO), "not": (TRUE,),
    "and": (TRUE, FALSE), "or": (TRUE, FALSE), "less": (ONE, TWO), "atmost": (ONE, TWO), "same": (ONE, TWO),
    "if": (TRUE, ONE, TWO),
}


class FormTest(unittest.TestCase):
    def check(self, value, wanted):
        before = shape(value)
        self.assertIs(is_expression(value), wanted, value)
        self.assertEqual(shape(value), before)

    def test_good_ones(self):
        for value in GOOD:
            self.check(value, True)

    def test_wrong_forms(self):
        for value in WRONG_FORMS:
            self.check(value, False)

    def test_wrong_kinds(self):
        for value in WRONG_KINDS:
            self.check(value, False)

    def test_operators_with_a_part_missing_or_too_many(self):
        for word, parts in OPERATORS.items():
            self.check((word, *parts), True)
            self.check((word,), False)
            self.check((word, *parts[1:]), False)
            self.check((word, *parts, parts[-1]), False)
            self.check([word, *parts], False)
            self.check((word, list(parts)), False)
            self.check((word, parts), False)

    def test_operators_with_a_wrong_part(self):
        for word, parts in OPERATORS.items():
            for k in range(len(parts)):
                for wrong in (*WRONG_FORMS, list(parts[k])):
                    self.check((word, *parts[:k], wrong, *parts[k + 1:]), False)

    def test_wrong_kinds_inside_of_operators(self):
        for word, parts in OPERATORS.items():
            for k in range(len(parts)):
                for wrong in WRONG_KINDS:
                    self.check((word, *parts[:k], wrong, *parts[k + 1:]), False)
                    self.check((word, *[X for _ in parts[:k]], wrong, *[X for _ in parts[k + 1:]]), False)

    def test_orders(self):
        for order in range(-1, 6):
            self.check(var("x", order), 0 <= order <= 4)

    def test_names(self):
        for name in ["a", "Z", "a1", "a_", "a.b[1].c", "x..", "b]][[", "A" * 80, "q" + "_" * 79]:
            self.check(var(name), True)
            self.check(pre(name), True)
        for name in ["", "1", "_a", ".a", "[a", "a b", "a-b", "a'", "a@", "a,b", "a(", "\u00e4", "a\u00e4", "a\n",
                     "A" * 81, "\u0061\u0301", "x\u0661", "\u00aa"]:
            self.check(var(name), False)
            self.check(pre(name), False)

    def test_sizes(self):
        for many, wanted in [(199, True), (201, False), (2001, False)]:
            self.assertEqual(size(wide(many)), many)
            self.check(wide(many), wanted)
        self.assertEqual(size(("neg", wide(199))), 200)
        self.check(("neg", wide(199)), True)
        self.check(("neg", ("neg", wide(199))), False)

    def test_depths(self):
        for levels in (1, 2, 29, 30, 31, 32):
            self.assertEqual(depth(tower(levels)), levels)
            self.check(tower(levels), levels <= 30)

    def test_huge_ones_are_refused_at_once(self):
        self.assertIs(is_expression(tower(100000)), False)
        shared = ONE
        for _ in range(29):
            shared = ("add", shared, shared)
        self.assertIs(is_expression(shared), False)

    def test_wrong_things_inside_of_too_much(self):
        self.check(tower(30, TRUE), False)
        self.check(tower(30, ["num", Ratio(1)]), False)


class SizeTest(unittest.TestCase):
    def test_sizes_and_depths(self):
        for expression, many, levels in [
            (ONE, 1, 1), (TIME, 1, 1), (X, 1, 1), (("sample", Ratio(0), Ratio(1)), 1, 1), (("neg", X), 2, 2),
            (("add", ("neg", X), ONE), 4, 3), (("if", TRUE, ONE, ("add", ONE, ("neg", X))), 7, 4),
            (("not", ("sample", Ratio(0), Ratio(1))), 2, 2), (wide(201), 201, 8), (tower(40), 40, 40),
        ]:
            with self.subTest(expression=expression):
                self.assertEqual((size(expression), depth(expression)), (many, levels))


class UsesTest(unittest.TestCase):
    def test_order(self):
        expression = ("add", ("add", var("b"), pre("a")), ("add", ("mul", var("a", 2), var("a")), ("neg", var("a", 4))))
        self.assertEqual(uses(expression), [var("a"), var("a", 2), var("a", 4), pre("a"), var("b")])

    def test_pre_stands_behind_the_orders(self):
        for first, second in [(pre("x"), var("x", 4)), (var("x", 4), pre("x")), (pre("x"), X), (X, pre("x"))]:
            self.assertEqual(uses(("add", first, second)), sorted([first, second], key=lambda key: key[0] == "pre"))

    def test_each_key_once(self):
        self.assertEqual(uses(("add", ("mul", X, X), ("if", pre("x"), X, pre("x")))), [X, pre("x")])

    def test_names_are_compared_by_the_codes_of_characters(self):
        names = ["a", "B", "a.b", "a[1]", "a1", "aa", "a_", "b"]
        expression = ONE
        for name in names:
            expression = ("add", expression, var(name))
        self.assertEqual([key[1] for key in uses(expression)], ["B", "a", "a.b", "a1", "a[1]", "a_", "aa", "b"])

    def test_none(self):
        for expression in (ONE, TRUE, TIME, INITIAL, ("sample", Ratio(0), Ratio(1)), ("not", INITIAL)):
            self.assertEqual(uses(expression), [])

    def test_results_are_not_shared(self):
        first = uses(X)
        first.append("mine")
        self.assertEqual(uses(X), [X])


class RenamedTest(unittest.TestCase):
    def test_every_name_at_once(self):
        expression = ("add", ("mul", var("a", 2), pre("b")), ("if", var("c"), var("b"), TIME))
        names = {"a": "b", "b": "a", "d": "e"}
        self.assertEqual(
            renamed(expression, names),
            ("add", ("mul", var("b", 2), pre("a")), ("if", var("c"), var("a"), TIME)),
        )
        self.assertEqual(names, {"a": "b", "b": "a", "d": "e"})

    def test_nothing_to_rename(self):
        for expression in GOOD:
            before = shape(expression)
            self.assertEqual(shape(renamed(expression, {})), before)
            self.assertEqual(shape(renamed(expression, {"y9": "z", "num": "n", "time": "t"})), before)


if __name__ == "__main__":
    unittest.main()
