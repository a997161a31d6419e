"""Fractions of any length, and the texts of values (points 3 and 4)."""

from math import gcd

from linkwork.errors import BadText, ByZero

# Python refuses to turn numbers of some thousand digits into texts at once,
# so they are taken apart into chunks of this many digits.
CHUNK_DIGITS = 64
CHUNK = 10 ** 64


class Ratio:
    """A fraction `top` / `bottom` in lowest terms, with `bottom` at least 1."""

    def __init__(self, numerator, denominator=1):
        if denominator == 0:
            raise ByZero("the denominator is 0")
        divisor = gcd(numerator, denominator)
        if denominator < 0:
            divisor = -divisor
        self.top = numerator // divisor
        self.bottom = denominator // divisor

    def __eq__(self, other):
        return isinstance(other, Ratio) and self.top == other.top and self.bottom == other.bottom

    def __add__(self, other):
        return Ratio(self.top * other.bottom + other.top * self.bottom, self.bottom * other.bottom)

    def __sub__(self, other):
        return Ratio(self.top * other.bottom - other.top * self.bottom, self.bottom * other.bottom)

    def __mul__(self, other):
        return Ratio(self.top * other.top, self.bottom * other.bottom)

    def __neg__(self):
        return Ratio(-self.top, self.bottom)


def quotient(first, second):
    """Returns first / second; raises ByZero."""
    return Ratio(first.top * second.bottom, first.bottom * second.top)


def is_less(first, second):
    """Returns True if first < second."""
    return first.top * second.bottom < second.top * first.bottom


def is_at_most(first, second):
    """Returns True if first <= second."""
    return first.top * second.bottom <= second.top * first.bottom


def power(base, exponent):
    """Returns the base to the power of the exponent; raises ByZero."""
    if exponent < 0:
        return power(quotient(Ratio(1), base), -exponent)
    result = Ratio(1)
    for _ in range(exponent):
        result = result * base
    return result


def ratio_text(value):
    """Returns the text of a value, a Ratio or a truth."""
    if isinstance(value, bool):
        return "true" if value else "false"
    if value.bottom == 1:
        return _integer_text(value.top)
    return f"{_integer_text(value.top)}/{_integer_text(value.bottom)}"


def read_ratio(line):
    """Returns the Ratio of a text; raises BadText with at 0."""
    top_text, slash, bottom_text = line.partition("/")
    top = _read_integer(top_text)
    if slash == "":
        return Ratio(top)
    bottom = _read_integer(bottom_text)
    if bottom < 2 or gcd(top, bottom) != 1:
        raise BadText(0)
    return Ratio(top, bottom)


def _integer_text(number):
    sign = "-" if number < 0 else ""
    rest = abs(number)
    chunks = []
    while rest >= CHUNK:
        rest, chunk = divmod(rest, CHUNK)
        chunks.append(str(chunk).zfill(CHUNK_DIGITS))
    chunks.append(str(rest))
    return sign + "".join(chunks[::-1])


def _read_integer(text):
    digits = text.removeprefix("-")
    if not (digits.isascii() and digits.isdigit()):
        raise BadText(0)
    if digits[0] == "0" and text != "0":
        raise BadText(0)
    first = len(digits) - len(digits) // CHUNK_DIGITS * CHUNK_DIGITS
    number = int("0" + digits[:first])
    for at in range(first, len(digits), CHUNK_DIGITS):
        number = number * CHUNK + int(digits[at:at + CHUNK_DIGITS])
    return -number if text != digits else number
