"""Numbers as sources have them: digits, or digits with a point between them."""

from linkwork.ratios import Ratio
from linkwork.tokens import MOST_DIGITS


def read_decimal(text):
    """Returns the Ratio of the text of a number token."""
    whole, _, rest = text.partition(".")
    return Ratio(int(whole + rest), int("1" + "0" * len(rest)))


def decimal_text(ratio):
    """Returns the shortest text that `read_decimal` reads as the Ratio."""
    scaled = ratio
    places = 0
    while scaled.bottom > 1 and places < MOST_DIGITS:
        scaled = scaled * Ratio(10)
        places += 1
    digits = str(scaled.top).zfill(places + 1)
    if places == 0:
        return digits
    return digits[:-places] + "." + digits[-places:]
