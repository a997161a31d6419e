"""Point 9: tokens, keywords, gaps and remarks, bounds of words and numbers."""

import unittest

from linkwork.errors import BadText
from linkwork.tokens import tokens

KEYWORDS = (
    "and connect connector der discrete else end equation extends false flow for if in initial input loop model not or "
    "parameter pre reset sample size sum then time true when"
).split()
SYMBOLS = "( ) [ ] { } , ; . = == < <= > >= <> + - * / :".split()


def pairs(source):
    return [(kind, text) for kind, text, _ in tokens(source)]


class TokenTest(unittest.TestCase):
    def test_nothing(self):
        for source in ("", " ", "\n", "  \n\n ", "//", "// a b", "//\n", " // a\n // b\n", "///", "// // \n//"):
            self.assertEqual(tokens(source), [])

    def test_keywords(self):
        for word in KEYWORDS:
            self.assertEqual(tokens(word), [("key", word, 0)])
            for other in (word + "s", word + "1", word + "_", word.upper(), word.capitalize(), "x" + word):
                self.assertEqual(tokens(other), [("word", other, 0)])

    def test_words(self):
        for word in ("a", "Z", "real", "Real", "a_b", "a1", "x_", "A__1", "reset_", "ends", "m" * 20, "i" + "9" * 19):
            self.assertEqual(tokens(word), [("word", word, 0)])

    def test_numbers(self):
        for number in ("0", "00", "7", "012", "1.5", "0.0", "00.10", "9" * 15, "9" * 15 + "." + "8" * 15,
                       "1." + "0" * 15):
            self.assertEqual(tokens(number), [("number", number, 0)])

    def test_symbols(self):
        for symbol in SYMBOLS:
            self.assertEqual(tokens(symbol), [("symbol", symbol, 0)])
            self.assertEqual(tokens(f" {symbol} a"), [("symbol", symbol, 1), ("word", "a", 2 + len(symbol))])

    def test_each_as_long_as_possible(self):
        for source, wanted in [
            ("1x", ["1", "x"]), ("1.5x", ["1.5", "x"]), ("1.x", ["1", ".", "x"]), ("1.", ["1", "."]),
            (".5", [".", "5"]),
            ("1.2.3", ["1.2", ".", "3"]), ("1..2", ["1", ".", ".", "2"]), ("x.1", ["x", ".", "1"]),
            ("x1.5", ["x1", ".", "5"]),
            ("===", ["==", "="]), ("<==", ["<=", "="]), ("<>=", ["<>", "="]), (">>=", [">", ">="]), ("><", [">", "<"]),
            ("=<", ["=", "<"]), ("=>", ["=", ">"]), ("= =", ["=", "="]), ("< >", ["<", ">"]),
            ("<<>>", ["<", "<>", ">"]),
            ("a-1", ["a", "-", "1"]), ("--", ["-", "-"]), ("a/b", ["a", "/", "b"]), ("a/ /b", ["a", "/", "/", "b"]),
            ("a//b", ["a"]), ("a///b", ["a"]), ("/*", ["/", "*"]), ("for1", ["for1"]), ("1for", ["1", "for"]),
            ("end;end", ["end", ";", "end"]), ("a\nb", ["a", "b"]), ("1\n.5", ["1", ".", "5"]),
            ("1 .5", ["1", ".", "5"]),
            ("der(x)", ["der", "(", "x", ")"]), ("{[(", ["{", "[", "("]), ("1e5", ["1", "e5"]), ("0x1", ["0", "x1"]),
        ]:
            self.assertEqual([text for _, text in pairs(source)], wanted, source)

    def test_kinds_and_indexes(self):
        self.assertEqual(tokens("  model M\n Real x=1.50;// a\n\nend"), [
            ("key", "model", 2), ("word", "M", 8), ("word", "Real", 11), ("word", "x", 16), ("symbol", "=", 17),
            ("number", "1.50", 18), ("symbol", ";", 22), ("key", "end", 29),
        ])

    def test_remarks(self):
        self.assertEqual(tokens("a // b\nc"), [("word", "a", 0), ("word", "c", 7)])
        self.assertEqual(tokens("a// !?%\u00e4\t\r \"\nc"), [("word", "a", 0), ("word", "c", 13)])
        self.assertEqual(tokens("a // no line feed at the end"), [("word", "a", 0)])
        self.assertEqual(tokens("//\n//\n a//"), [("word", "a", 7)])
        self.assertEqual(tokens("// " + "x" * 100 + "1" * 100), [])

    def test_results_are_not_shared(self):
        first = tokens("a b")
        first.clear()
        self.assertEqual(len(tokens("a b")), 2)


class BadTokenTest(unittest.TestCase):
    def check(self, source, at):
        with self.assertRaises(BadText, msg=source) as caught:
            tokens(source)
        self.assertEqual(caught.exception.at, at, source)

    def test_characters_that_begin_no_token(self):
        for character in "!\"#$%&'?@\\^_`|~\t\r\f\v\0\u00a0\u00e4\u03b1\u0661\u00b2\u2028\ufeff":
            self.check(character, 0)
            self.check("a " + character, 2)
            self.check("aaa\n;" + character + "b", 5)

    def test_the_first_one(self):
        self.check("a ! b ?", 2)
        self.check("a // ! \n b ?", 11)
        self.check("a / ! / b", 4)
        self.check("_", 0)
        self.check("a _", 2)
        self.check("1_", 1)
        self.check("a\u00e4", 1)
        self.check("1\u0661", 1)
        self.check("!=", 0)
        self.check("a\tb", 1)
        self.check("a\r\nb", 1)

    def test_long_words(self):
        self.assertEqual(len(tokens("a" * 20 + " " + "b" * 20)), 2)
        self.check("a" * 21, 0)
        self.check("x " + "a" * 21, 2)
        self.check("a" * 20 + "_", 0)
        self.check("a" * 20 + "1", 0)
        self.check("x=" + "a1_" * 7 + " ?", 2)
        self.check("1" + "a" * 21, 1)

    def test_long_numbers(self):
        self.check("1" * 16, 0)
        self.check("1" * 16 + ".5", 0)
        self.check("1." + "5" * 16, 0)
        self.check("x " + "0" * 16, 2)
        self.check("0." + "0" * 16, 0)
        self.check("1" * 15 + "." + "2" * 16, 0)
        self.check("1" * 16 + "." + "2" * 15, 0)
        self.check("a." + "1" * 16, 2)
        self.check("1.5." + "1" * 16, 4)
        self.check("0" * 16 + ".", 0)

    def test_the_first_of_several(self):
        self.check("a" * 21 + " !", 0)
        self.check("! " + "a" * 21, 0)
        self.check("1" * 16 + " " + "a" * 21, 0)


if __name__ == "__main__":
    unittest.main()
