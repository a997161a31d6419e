"""Point 13: nesting inside of 20 others, sizes and depths of trees, and that BadText goes first."""

import unittest

from linkwork.errors import BadText, TooLarge
from linkwork.syntax import parse_source, parse_tree
from places import E_PLACES, REF_PLACES

# Each form puts one E around what stands for HERE.
FORMS = [
    "(HERE)", "{HERE}", "{1, HERE, 2}", "sum(HERE)", "sample(HERE, 1)", "sample(1, HERE)", "w[HERE]", "w.w[HERE].w",
    "der(w[HERE])", "pre(w.w[HERE])", "size(w[HERE])", "if HERE then 1 else 2", "if 1 then HERE else 2",
    "if 1 then 2 else HERE", "1 + (HERE)", "not -{HERE}",
]


def nested(form, inner, many):
    """The text with this form around it so many times."""
    for _ in range(many):
        inner = form.replace("HERE", inner)
    return inner


class Case(unittest.TestCase):
    def bad(self, function, source, at):
        with self.assertRaises(BadText, msg=source) as caught:
            function(source)
        self.assertEqual(caught.exception.at, at, source)

    def too_large(self, function, source):
        with self.assertRaises(TooLarge, msg=source):
            function(source)


class ExpressionNestTest(Case):
    def texts(self, many):
        """Texts of an E, `@`, that is inside of so many others; parentheses keep the trees small."""
        for form in FORMS:
            half = (many - 1) // 2
            yield nested("(HERE)", form.replace("HERE", nested("(HERE)", "@", half)), many - 1 - half)
        yield nested("if 1 then 2 else HERE", "(@)", many - 1)

    def test_inside_of_19_others(self):
        for text in self.texts(19):
            parse_tree(text.replace("@", "w"))
            for place in E_PLACES:
                if not (text.startswith("if") and "HERE = " in place):
                    parse_source(place.replace("HERE", text.replace("@", "w")))

    def test_inside_of_20_others(self):
        for text in self.texts(20):
            for inner in ("w", "-w", "if w then w else w", "", "=", "not w"):
                self.bad(parse_tree, text.replace("@", inner), text.index("@"))
            for place in E_PLACES:
                if not (text.startswith("if") and "HERE = " in place):
                    source = place.replace("HERE", text)
                    self.bad(parse_source, source.replace("@", "w"), source.index("@"))

    def test_inside_of_21_others(self):
        for form in FORMS:
            self.bad(parse_tree, nested("(HERE)", form.replace("HERE", "w"), 20), 20)
        self.bad(parse_tree, "(" * 21 + "w" + ")" * 21, 20)
        self.bad(parse_tree, "(" * 500 + "w" + ")" * 500, 20)

    def test_the_first_of_several_that_are_inside_of_20_others(self):
        for form in ("{@1, (w), 2}", "sample(@1, (w))", "if @1 then (w) else w", "if @w then 1 else (2)"):
            source = nested("(HERE)", form, 19)
            self.bad(parse_tree, source.replace("@", ""), source.index("@"))

    def test_tokens_used_up_there(self):
        self.bad(parse_tree, "(" * 20, 20)
        self.bad(parse_tree, "(" * 20 + "  ", 22)
        self.bad(parse_tree, "(" * 20 + " !", 21)
        self.bad(parse_tree, "(" * 19 + " ! (w", 20)

    def test_indices_of_references_outside_of_expressions(self):
        for place in REF_PLACES:
            source = place.replace("HERE", "w[" + "(" * 19 + "@" + ")" * 19 + "]")
            parse_source(source.replace("@", "w"))
            source = place.replace("HERE", "w.w[" + "(" * 20 + "@" + ")" * 20 + "]")
            self.bad(parse_source, source.replace("@", "w"), source.index("@"))

    def test_side_by_side_does_not_count(self):
        deep = nested("(HERE)", "w", 19)
        parse_tree(" + ".join([deep] * 20))


class StatementNestTest(Case):
    FORMS = ["for i in 1 : 2 loop HERE end for;", "if w then HERE end if;", "if w then else HERE end if;",
             "if w then w = w; else w = w; HERE w = w; end if;"]
    SECTIONS = ["model A equation HERE end A;", "model A initial equation HERE end A;"]

    def test_lists_of_statements(self):
        for section in self.SECTIONS:
            for form in self.FORMS:
                for inner in ("w = w;", "", "for i in 1 : 2 loop end for;", "end", "1"):
                    self.check_list(section, form, inner, inner[-1:] in ("", ";"))

    def check_list(self, section, form, inner, is_right):
        """Puts a list inside of 19 others, where it may be read, and of 20 ones."""
        if is_right and "loop" not in inner:
            parse_source(section.replace("HERE", nested(form, inner, 19)))
        source = section.replace("HERE", nested(form, f"if w then @{inner} end if;", 19))
        self.bad(parse_source, source.replace("@", ""), self.next_token(source))

    def test_lists_that_are_empty_count(self):
        source = "model A equation " + nested("if w then else HERE end if;", "if w then @else w = w; end if;",
            19) + " end A;"
        self.bad(parse_source, source.replace("@", ""), source.index("@"))

    def next_token(self, source):
        """The index, without the mark `@`, of the token behind it."""
        at = source.index("@")
        rest = source[at + 1:]
        return at + len(rest) - len(rest.lstrip())

    def test_lists_of_acts(self):
        for form in self.FORMS:
            for inner in ("w = w;", "", "reset(w, 1);"):
                parse_source("model A equation " + nested(form, f"when w then {inner} end when;", 18) + " end A;")
                source = "model A equation " + nested(form, f"when w then @{inner} end when;", 19) + " end A;"
                self.bad(parse_source, source.replace("@", ""), self.next_token(source))

    def test_tokens_used_up_there(self):
        start = "model A equation " + "if w then " * 20
        self.bad(parse_source, start, len(start))
        self.bad(parse_source, start + "  ", len(start) + 2)
        self.bad(parse_source, start + "  ?", len(start) + 2)

    def test_many_side_by_side(self):
        parse_source("model A equation " + nested("if w then HERE else HERE end if;", "", 8) + " end A;")
        parse_source("model A equation " + "for i in 1 : 2 loop end for; " * 100 + " end A;")

    def test_expressions_inside_of_statements_count_by_themselves(self):
        inner = "w = " + "(" * 19 + "w" + ")" * 19 + ";"
        parse_source("model A equation " + nested("if w then HERE end if;", inner, 19) + " end A;")


class ModificationNestTest(Case):
    PLACES = ["model A extends B@; end A;", "model A Tank x@; end A;", "model A Tank x[1]@ = 1; end A;"]

    def test_lists_of_modifications(self):
        for place in self.PLACES:
            for last in ("a = 1", "a = 1, b = 2", "a = " + "(" * 19 + "w" + ")" * 19):
                parse_source(place.replace("@", "(" + nested("w(HERE)", last, 19) + ")"))
                source = place.replace("@", "(" + nested("w(HERE)", "w@(" + last + ")", 19) + ")")
                self.bad(parse_source, source.replace("@", ""), source.index("@"))

    def test_empty_ones(self):
        for place in self.PLACES:
            for many in (0, 18):
                source = place.replace("@", "(" + nested("w(HERE)", "w(@)", many) + ")")
                self.bad(parse_source, source.replace("@", ""), source.index("@"))
            for inner in ("w@()", "w@(", "w@(w(w = 1))", "w@(1)"):
                source = place.replace("@", "(" + nested("w(HERE)", inner, 19) + ")")
                self.bad(parse_source, source.replace("@", ""), source.index("@"))

    def test_behind_others(self):
        source = "model A extends B(a = 1, b(c = 2), " + nested("w(HERE)", "w@(a = 1)", 19) + "); end A;"
        self.bad(parse_source, source.replace("@", ""), source.index("@"))


def sum_of(many):
    """A sum of an odd size that is at most 8 deep."""
    parts = ["1"] * ((many + 1) // 2)
    while len(parts) > 1:
        pairs = [f"({parts[k]} + {parts[k + 1]})" for k in range(0, len(parts) - 1, 2)]
        parts = pairs + parts[len(pairs) * 2:]
    return parts[0]


# Texts of trees, and whether these are small enough.
TREES = [
    (sum_of(199), True), (f"-{sum_of(199)}", True), (sum_of(201), False), (f"not -{sum_of(199)}", False),
    (f"{{{', '.join(['1'] * 199)}}}", True), (f"{{{', '.join(['1'] * 200)}}}", False),
    (f"{{{', '.join(['w[1]'] * 99)}, 1}}", True), (f"{{{', '.join(['w[1]'] * 99)}, 1, 1}}", False),
    (f"{{{', '.join(['der(w)'] * 99)}, 1}}", True), (f"{{{', '.join(['size(w)'] * 100)}}}", False),
    (f"{{{', '.join(['pre(w[w])'] * 66)}, 1}}", True), (f"{{{', '.join(['pre(w[w])'] * 66)}, 1, 1}}", False),
    (f"{{{', '.join(['sample(1, 2)'] * 66)}, 1}}", True), (f"{{{', '.join(['sample(1, 2)'] * 66)}, 1, 1}}", False),
    (f"{{{', '.join(['initial()'] * 199)}}}", True), (f"{{{', '.join(['sum(time)'] * 100)}}}", False),
    (" + ".join(["1"] * 30), True), (" + ".join(["1"] * 31), False), (" and ".join(["w"] * 30), True),
    (" or ".join(["w"] * 31), False), (" * ".join(["w"] * 30), True), (" / ".join(["w"] * 31), False),
    ("not " * 29 + "w", True), ("not " * 30 + "w", False), ("not " * 27 + "a <> b", True),
    ("not " * 28 + "a <> b", False),
    ("not " * 28 + "w[1]", True), ("not " * 29 + "w[1]", False), ("not " * 27 + "der(w[1])", True),
    ("not " * 28 + "der(w[1])", False), ("not " * 28 + "{1}", True), ("not " * 29 + "{1}", False),
    ("not " * 28 + "sample(1, 2)", True), ("not " * 29 + "sample(1, 2)", False), ("not " * 29 + "initial()", True),
    (nested("(HERE)", "not " * 29 + "w", 19), True), ("not " * 5000 + "w", False), (" - ".join(["w"] * 5000), False),
]
# Texts of references likewise.
REFS = [
    (f"w[{sum_of(199)}]", True), (f"w[-{sum_of(199)}]", False), (f"w[{sum_of(99)}].w[{sum_of(99)}].w[1]", True),
    (f"w[{sum_of(101)}].w[{sum_of(99)}]", False), ("w[" + "not " * 28 + "w]", True), ("w[" + "not " * 29 + "w]", False),
    (".".join(["w"] * 300), True), (".".join(["w[1]"] * 199), True), (".".join(["w[1]"] * 200), False),
]


class TreeBoundTest(Case):
    def check(self, function, source, is_small):
        if is_small:
            function(source)
        else:
            self.too_large(function, source)

    def test_trees_alone(self):
        for text, is_small in [*TREES, *REFS]:
            self.check(parse_tree, text, is_small)

    def test_trees_at_every_place(self):
        for place in E_PLACES:
            for text, is_small in TREES:
                self.check(parse_source, place.replace("HERE", text), is_small)

    def test_references_at_every_place(self):
        for place in REF_PLACES:
            for text, is_small in REFS:
                self.check(parse_source, place.replace("HERE", text), is_small)

    def test_bad_text_goes_first(self):
        for place in E_PLACES:
            source = place.replace("HERE", sum_of(201))
            self.bad(parse_source, source + " !", len(source) + 1)
            self.bad(parse_source, source + " w", len(source) + 1)
            self.bad(parse_source, source[:-1], len(source) - 1)
            self.bad(parse_source, "! " + source, 0)
        for place in REF_PLACES:
            source = place.replace("HERE", f"w[{sum_of(201)}]")
            self.bad(parse_source, source + " model", len(source) + 6)
        self.bad(parse_tree, sum_of(201) + " 1", len(sum_of(201)) + 1)
        self.bad(parse_tree, "not " * 5000, 20000)

    def test_each_tree_counts_by_itself(self):
        text = " + ".join(["1"] * 30)
        parse_source(f"model A Real x[{text}](a = {text}) = {text}; equation {text} = {text}; {text} = {text}; end A;")


if __name__ == "__main__":
    unittest.main()
