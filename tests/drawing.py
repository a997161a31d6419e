"""Expressions that are drawn at random."""

from building import FALSE, INITIAL, TIME, TRUE, num, pre, var
from linkwork.ratios import Ratio

NUMBERS = [var("x"), var("y"), var("x", 1), var("u", 2), var("p"), var("n"), pre("x"), pre("n"), TIME]
TRUTHS = [var("b"), pre("b"), INITIAL, TRUE, FALSE, ("sample", Ratio(0), Ratio(1, 2))]


def number(source, depth, leaves=NUMBERS):
    """An expression for a number, of at most this depth."""
    word = source.choice(("leaf", "num", "neg", "add", "sub", "mul", "div", "if")) if depth > 1 else "leaf"
    if word == "leaf":
        return source.choice(leaves)
    if word == "num":
        return num(source.randint(-2, 2), source.randint(1, 2))
    if word == "neg":
        return (word, number(source, depth - 1, leaves))
    if word == "if":
        return (word, truth(source, depth - 1), number(source, depth - 1, leaves), number(source, depth - 1, leaves))
    return (word, number(source, depth - 1, leaves), number(source, depth - 1, leaves))


def truth(source, depth):
    """An expression for a truth, of at most this depth."""
    word = source.choice(("leaf", "not", "and", "or", "less", "atmost", "same")) if depth > 1 else "leaf"
    if word == "leaf":
        return source.choice(TRUTHS)
    if word == "not":
        return (word, truth(source, depth - 1))
    if word in ("and", "or"):
        return (word, truth(source, depth - 1), truth(source, depth - 1))
    return (word, number(source, depth - 1), number(source, depth - 1))
