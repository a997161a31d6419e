"""The forms of expressions, and the kinds of their values (point 5).

A kind is "number" or "truth"; "either" where it cannot be told without the
variables; "" where the kinds of the parts do not fit.
"""

from linkwork.names import is_name
from linkwork.ratios import Ratio

MOST_ORDER = 4

# The words whose parts are all expressions, with the kinds that these need.
NEEDED_KINDS = {
    "neg": ("number",),
    "add": ("number", "number"),
    "sub": ("number", "number"),
    "mul": ("number", "number"),
    "div": ("number", "number"),
    "not": ("truth",),
    "and": ("truth", "truth"),
    "or": ("truth", "truth"),
    "less": ("number", "number"),
    "atmost": ("number", "number"),
    "same": ("either", "either"),
    "if": ("truth", "either", "either"),
}
NUMBER_WORDS = ("num", "time", "var", "neg", "add", "sub", "mul", "div")


def parts_of(expression):
    """Returns the list of the parts that are expressions."""
    return list(expression[1:]) if expression[0] in NEEDED_KINDS else []


def is_well_formed(value):
    """Returns True if the word has its parts; those that are expressions are not looked at."""
    if not isinstance(value, tuple) or len(value) == 0 or not isinstance(value[0], str):
        return False
    word = value[0]
    if word in NEEDED_KINDS:
        return len(value) == 1 + len(NEEDED_KINDS[word])
    if len(value) == 1:
        return word in ("time", "initial")
    if len(value) == 2:
        return _is_single(word, value[1])
    return len(value) == 3 and _is_double(word, value[1], value[2])


def kind_of(expression, kinds):
    """Returns the kind of an expression; `kinds` has the kinds of some variables by their names."""
    word = expression[0]
    if word in NEEDED_KINDS:
        return joined_kind(word, [kind_of(part, kinds) for part in parts_of(expression)])
    if word == "pre" or word == "var" and expression[2] == 0:
        return kinds.get(expression[1], "either")
    return _usual_kind(word)


def joined_kind(word, kinds):
    """Returns the kind of an expression with this word, whose parts have these kinds."""
    if "" in kinds or not all([_fit(kind, needed) for kind, needed in zip(kinds, NEEDED_KINDS[word])]):
        return ""
    if word in ("same", "if") and not _fit(kinds[-2], kinds[-1]):
        return ""
    if word == "if":
        return kinds[-1] if kinds[-2] == "either" else kinds[-2]
    return _usual_kind(word)


def _usual_kind(word):
    return "number" if word in NUMBER_WORDS else "truth"


def _fit(kind, other):
    """Returns True if one value can be of both kinds."""
    return kind == other or "either" in (kind, other)


def _is_single(word, given):
    if word == "num":
        return isinstance(given, Ratio)
    if word == "truth":
        return isinstance(given, bool)
    return word == "pre" and is_name(given)


def _is_double(word, first, second):
    if word == "var":
        return is_name(first) and _is_order(second)
    return word == "sample" and isinstance(first, Ratio) and isinstance(second, Ratio) and second.top > 0


def _is_order(value):
    return isinstance(value, int) and not isinstance(value, bool) and 0 <= value <= MOST_ORDER
