"""Sums of expressions (points 20 and 24)."""

from linkwork.ratios import Ratio


def sum_of(terms):
    """Returns the sum of expressions, added from the left: 0 if there are none."""
    if not terms:
        return ("num", Ratio(0))
    total = terms[0]
    for term in terms[1:]:
        total = ("add", total, term)
    return total
