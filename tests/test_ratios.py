"""Points 3 and 4: fractions, and the texts of values."""

import unittest
from fractions import Fraction

from linkwork.errors import BadText, ByZero
from linkwork.ratios import Ratio, is_at_most, is_less, power, quotient, ratio_text, read_ratio

LONG = 7 ** 150
SAMPLES = [
    (0, 1), (1, 1), (-1, 1), (2, 3), (-2, 3), (3, 2), (6, -4), (-6, -4), (10, 5), (7, 1000),
    (LONG, 3), (-LONG, 11), (11, LONG), (LONG + 1, LONG), (LONG, 7 ** 149),
]


def fields(ratio):
    return (ratio.top, ratio.bottom)


def expected(fraction):
    return (fraction.numerator, fraction.denominator)


class RatioTest(unittest.TestCase):
    def test_lowest_terms_and_signs(self):
        for given, wanted in [
            ((6, 4), (3, 2)), ((-6, 4), (-3, 2)), ((6, -4), (-3, 2)), ((-6, -4), (3, 2)),
            ((0, 5), (0, 1)), ((0, -5), (0, 1)), ((5, 1), (5, 1)), ((5, -1), (-5, 1)),
            ((12, 4), (3, 1)), ((4, 12), (1, 3)),
        ]:
            with self.subTest(given=given):
                self.assertEqual(fields(Ratio(*given)), wanted)

    def test_one_argument_is_an_integer(self):
        self.assertEqual(fields(Ratio(-7)), (-7, 1))
        self.assertEqual(fields(Ratio(numerator=8, denominator=6)), (4, 3))

    def test_a_denominator_0(self):
        for top in (0, 1, -1, LONG):
            with self.assertRaises(ByZero):
                Ratio(top, 0)

    def test_long_numbers(self):
        self.assertGreater(len(str(LONG)), 100)
        self.assertEqual(fields(Ratio(LONG * 6, -LONG * 4)), (-3, 2))
        self.assertEqual(fields(Ratio(LONG, LONG + 1)), (LONG, LONG + 1))

    def test_operators(self):
        for first in SAMPLES:
            for second in SAMPLES:
                with self.subTest(first=first, second=second):
                    self.check_operators(first, second)

    def check_operators(self, first, second):
        left, right = Ratio(*first), Ratio(*second)
        a, b = Fraction(*first), Fraction(*second)
        self.assertEqual(fields(left + right), expected(a + b))
        self.assertEqual(fields(left - right), expected(a - b))
        self.assertEqual(fields(left * right), expected(a * b))
        self.assertEqual(fields(-left), expected(-a))
        self.assertIs(left == right, a == b)
        self.assertIs(left != right, a != b)
        self.assertIs(is_less(left, right), a < b)
        self.assertIs(is_at_most(left, right), a <= b)
        if b:
            self.assertEqual(fields(quotient(left, right)), expected(a / b))
        else:
            with self.assertRaises(ByZero):
                quotient(left, right)
        self.assertEqual((fields(left), fields(right)), (expected(a), expected(b)))

    def test_a_ratio_equals_ratios_only(self):
        self.assertFalse(Ratio(1) == 1)
        self.assertTrue(Ratio(1) != True)  # noqa: E712
        self.assertEqual(Ratio(2, 4), Ratio(-1, -2))

    def test_in_place_signs_leave_the_old_one(self):
        first = Ratio(1, 2)
        second = first
        second += Ratio(1, 3)
        self.assertEqual((fields(first), fields(second)), ((1, 2), (5, 6)))


class PowerTest(unittest.TestCase):
    def test_all_exponents(self):
        for base in [(2, 3), (-2, 3), (1, 1), (-1, 1), (5, 1), (-1, 7), (LONG, 2)]:
            for exponent in range(-60, 61):
                value = power(Ratio(*base), exponent)
                self.assertEqual(fields(value), expected(Fraction(*base) ** exponent))

    def test_0(self):
        self.assertEqual(fields(power(Ratio(0), 0)), (1, 1))
        self.assertEqual(fields(power(Ratio(0), 1)), (0, 1))
        self.assertEqual(fields(power(Ratio(0), 60)), (0, 1))
        for exponent in (-1, -2, -60):
            with self.assertRaises(ByZero):
                power(Ratio(0), exponent)

    def test_the_base_stays(self):
        base = Ratio(-3, 4)
        power(base, -3)
        self.assertEqual(fields(base), (-3, 4))


class TextTest(unittest.TestCase):
    def test_texts(self):
        for value, text in [
            (Ratio(0), "0"), (Ratio(5), "5"), (Ratio(-5), "-5"), (Ratio(1, 2), "1/2"),
            (Ratio(-10, 4), "-5/2"), (True, "true"), (False, "false"),
            (Ratio(10 ** 64), "1" + "0" * 64), (Ratio(1 - 10 ** 64), "-" + "9" * 64),
            (Ratio(10 ** 128 + 5, 10 ** 64 + 1), f"{10 ** 128 + 5}/{10 ** 64 + 1}"),
        ]:
            with self.subTest(text=text):
                self.assertEqual(ratio_text(value), text)

    def test_texts_are_read_back(self):
        numbers = [0, 1, 9, 10, 10 ** 63, 10 ** 64 - 1, 10 ** 64, 10 ** 64 + 1, 10 ** 128, LONG]
        for top in numbers:
            for bottom in numbers[1:]:
                for sign in (1, -1):
                    ratio = Ratio(sign * top, bottom)
                    text = ratio_text(ratio)
                    self.assertEqual(fields(read_ratio(text)), fields(ratio))
                    shown = str(ratio.top) if ratio.bottom == 1 else f"{ratio.top}/{ratio.bottom}"
                    self.assertEqual(text, shown)

    def test_any_length(self):
        # Longer than the numbers that Python itself turns into texts.
        digits = "1234567890" * 1000
        for text in (digits, "-" + digits, digits + "1/" + "1" + "0" * 9000):
            self.assertEqual(ratio_text(read_ratio(text)), text)

    def test_lines_that_are_no_texts(self):
        for line in [
            "", "-", "--1", "+1", "-+1", "1-", "01", "-01", "00", "-0", "-00", "1/1", "-1/1", "2/4",
            "-2/4", "0/1", "0/2", "-0/2", "1/0", "1/01", "01/2", "1/-2", "1/+2", "1/", "/2", "/",
            "-/2", "1//2", "1/2/3", " 1", "1 ", "1 /2", "1/ 2", "- 1", "1\n", "1.0", "1e3", "1_0",
            "true", "false", "a", "0x1", "\u0661", "\u00b2", "1/\u0663", "\uff11", "4/2", "10/5",
            "1" * 200 + "/" + "1" * 200, "0" + "1" * 64, "1" * 64 + "x" + "1" * 63,
        ]:
            with self.subTest(line=line):
                with self.assertRaises(BadText) as caught:
                    read_ratio(line)
                self.assertEqual(caught.exception.at, 0)


if __name__ == "__main__":
    unittest.main()
