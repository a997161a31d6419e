"""Point 13: the index `at` of what cannot be read, for sources with tokens left out, put in or exchanged."""

import unittest

from earley import RULES, first_wrong
from linkwork.errors import BadText, TooLarge
from linkwork.syntax import parse_source, parse_tree

MARKS = sorted({mark for bodies in RULES.values() for body in bodies for mark in body if not mark[0].isupper()})
TEXTS = {"word": "w", "number": "1.5"}
STRANGE = ["!", "w" * 21, "1" * 16]

# Each form of the language stands in one of these; "w" is the only word, so that `end w` is always right.
SOURCES = [
    "model w end w ; connector w w w ; end w ;",
    "model w extends w ; extends w ( w = w , w ( w = 1.5 , w ( w = w ) ) ) ; end w ;",
    "model w parameter w w [ w ] ( w = w ) = w ; discrete w w ; input w w ; flow w w = 1.5 ; end w ;",
    "model w w w ( w ( w = w ) ) ; extends w ; w w [ 1.5 ] = w ; equation initial equation end w ;",
    "model w equation w = w ; initial ( ) = w ; initial equation initial ( ) = w ; w = w ; end w ;",
    "model w equation connect ( w , w [ w ] . w ) ; when w then w . w = w ; reset ( w [ w ] , w ) ; end when ; end w ;",
    "model w equation for w in w : w loop if w then connect ( w , w ) ; else when w then end when ; end if ; "
    "end for ; end w ;",
    "model w initial equation for w in w : w loop if w then w = w ; else for w in w : w loop end for ; end if ; "
    "end for ; end w ;",
    "model w equation ( if w then w else w ) = if w then w else w ; { w , w } = - w ; not w = w ; end w ;",
]
TREES = [
    "w or w and not not w == - w + w * w - w / w",
    "- w * w <> w and w < w or w <= w and w > w or ( w >= w )",
    "if w then if w then w else w else if w then w else w + w",
    "{ w , 1.5 , { true } } + sum ( { false , time } ) * initial ( )",
    "sample ( w , 1.5 ) or der ( w . w ) < pre ( w [ w ] ) - size ( w [ w ] . w )",
    "w [ if w then w else w ] . w . w [ w [ w ] ]",
]


def written(marks):
    """The text of some tokens, and the indexes of all of them and of its end."""
    text = ""
    indexes = []
    for mark in marks:
        indexes.append(len(text))
        text += TEXTS.get(mark, mark) + " "
    return text, [*indexes, len(text)]


def marks_of(source):
    return ["word" if text == "w" else "number" if text == "1.5" else text for text in source.split()]


def found_at(function, source):
    """The index at which a text cannot be read, or None."""
    try:
        function(source)
    except BadText as error:
        return error.at
    except TooLarge:
        return None
    return None


class MutationTest(unittest.TestCase):
    def check(self, marks, start):
        text, indexes = written(marks)
        wrong = first_wrong(marks, start)
        wanted = None if wrong is None else indexes[wrong]
        self.assertEqual(found_at(parse_source if start == "Source" else parse_tree, text), wanted, text)

    def texts(self):
        for source in SOURCES:
            yield marks_of(source), "Source"
        for tree in TREES:
            yield marks_of(tree), "E"

    def test_all_is_right_as_it_stands(self):
        for marks, start in self.texts():
            self.assertIsNone(first_wrong(marks, start), marks)
            self.check(marks, start)

    def test_tokens_left_out(self):
        for marks, start in self.texts():
            for k in range(len(marks)):
                self.check(marks[:k] + marks[k + 1:], start)

    def test_tokens_used_up(self):
        for marks, start in self.texts():
            for k in range(len(marks)):
                self.check(marks[:k], start)

    def test_tokens_put_in(self):
        for marks, start in self.texts():
            for k in range(len(marks) + 1):
                for mark in MARKS:
                    self.check([*marks[:k], mark, *marks[k:]], start)

    def test_tokens_exchanged(self):
        for marks, start in self.texts():
            for k in range(len(marks)):
                for mark in MARKS:
                    self.check([*marks[:k], mark, *marks[k + 1:]], start)

    def test_strange_characters_before_and_behind_a_wrong_token(self):
        for marks, start in self.texts():
            for k in range(0, len(marks), 3):
                self.check_strange([*marks[:k], *marks[k + 1:]], start)

    def check_strange(self, marks, start):
        """A token that is none ends what is read: the tokens before it are used up there."""
        for k in range(len(marks) + 1):
            text, indexes = written(marks[:k])
            wrong = first_wrong(marks[:k], start)
            wanted = indexes[k if wrong is None else wrong]
            for strange in STRANGE:
                source = text + strange + " " + written(marks[k:])[0]
                self.assertEqual(found_at(parse_source if start == "Source" else parse_tree, source), wanted, source)


class PlaceTest(unittest.TestCase):
    def check(self, source, at):
        self.assertEqual(found_at(parse_source, source), at, source)

    def check_tree(self, source, at):
        self.assertEqual(found_at(parse_tree, source), at, source)

    def test_the_name_behind_end(self):
        self.check("model A end B;", 12)
        self.check("model A end a;", 12)
        self.check("model A Real x; equation x = 1; initial equation x = 2; end x;", 60)
        self.check("model A end A; model B end A;", 27)
        self.check("model A end model;", 12)
        self.check("model A end ;", 12)

    def test_the_end_of_the_source(self):
        self.check("model", 5)
        self.check("model A", 7)
        self.check("model A  // remark", 18)
        self.check("model A end A", 13)
        self.check("model A end A \n\n", 16)
        self.check_tree("", 0)
        self.check_tree(" // nothing\n ", 13)
        self.check_tree("a +", 3)
        self.check_tree("a + ", 4)

    def test_keywords_are_no_names(self):
        for source, at in [
            ("model end end end;", 6), ("model A extends der; end A;", 16), ("model A Real time; end A;", 13),
            ("model A extends B(size = 1); end A;", 18), ("model A equation for loop in 1 : 2 loop end for; end A;",
            21),
            ("model A equation a.end = 1; end A;", 19), ("model A equation connect(a, not); end A;", 28),
        ]:
            self.check(source, at)

    def test_initial_statements_without_connect_and_when(self):
        self.check("model A initial equation connect(a, b); end A;", 25)
        self.check("model A initial equation when a then end when; end A;", 25)
        self.check("model A initial equation for i in 1 : 2 loop connect(a, b); end for; end A;", 45)
        self.check("model A initial equation if a then else when a then end when; end if; end A;", 40)

    def test_initial_begins_a_section_or_an_expression(self):
        self.check("model A initial() = 1; end A;", 15)
        self.check("model A equation initial a; end A;", 25)
        self.check("model A equation for i in 1 : 2 loop initial equation end for; end A;", 45)
        self.check("model A initial equation initial equation end A;", 33)
        self.check("model A equation initial", 24)
        self.check("model A equation initial !", 25)

    def test_if_stands_in_parentheses_only(self):
        self.check_tree("a + if b then c else d", 4)
        self.check_tree("a or if b then c else d", 5)
        self.check_tree("not if b then c else d", 4)
        self.check_tree("-if b then c else d", 1)
        self.check("model A equation a + if b then c else d = 1; end A;", 21)
        self.check("model A equation if a then b else c = d; end A;", 29)

    def test_comparisons_and_signs(self):
        self.check_tree("a < b < c", 6)
        self.check_tree("a == b <> c", 7)
        self.check_tree("a + -b", 4)
        self.check_tree("a * -b", 4)
        self.check_tree("--a", 1)
        self.check_tree("a == not b", 5)
        self.check_tree("a = b", 2)

    def test_brackets(self):
        for source, at in [("()", 1), ("{}", 1), ("a[]", 2), ("sum()", 4), ("sample(1)", 8), ("initial(1)", 8),
            ("der(1)", 4),
                           ("der(a + b)", 6), ("size((a))", 5), ("(a]", 2), ("{a,}", 3), ("a.", 2), ("a.1", 2),
                           ("a[1, 2]", 3),
                           ("a(1)", 1), ("1.5.a", 3), ("sample(1, 2, 3)", 11), ("der", 3), ("time()", 4)]:
            self.check_tree(source, at)

    def test_strange_characters(self):
        self.check("model A ! end A;", 8)
        self.check("model A ; !", 8)
        self.check("! model", 0)
        self.check("model A end A; !", 15)
        self.check("model A end A; " + "a" * 21, 15)
        self.check("model A Real " + "x" * 21 + "; end B;", 13)
        self.check("model A Real x = 0." + "1" * 16 + "; end B;", 17)
        self.check("model A end B; !", 12)
        self.check("model A end A;\t", 14)
        self.check_tree("a !", 2)
        self.check_tree("a b !", 2)


if __name__ == "__main__":
    unittest.main()
