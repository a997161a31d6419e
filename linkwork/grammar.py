"""The grammar of expressions in sources (points 10 to 13).

In all functions `around` is the number of the Es that what is read is inside of.
"""

from linkwork.decimals import read_decimal
from linkwork.errors import BadText

MOST_AROUND = 20

# For a comparison its word, True if the sides change places, and True if it
# stands inside of "not".
COMPARISONS = {
    "==": ("same", False, False),
    "<>": ("same", False, True),
    "<": ("less", False, False),
    "<=": ("atmost", False, False),
    ">": ("less", True, False),
    ">=": ("atmost", True, False),
}
SUM_WORDS = {"+": "add", "-": "sub"}
PRODUCT_WORDS = {"*": "mul", "/": "div"}


def read_tree(cursor):
    """Reads an E that is inside of no other one."""
    return cursor.weigh(_read_tree(cursor, 0))


def read_left(cursor):
    """Reads the E on the left of a `=`, where no if may stand."""
    return cursor.weigh(_read_or(cursor, 0))


def read_ref(cursor):
    """Reads a REF that is inside of no E."""
    return cursor.weigh(_read_ref(cursor, 0))


def _read_tree(cursor, around):
    """Reads an E."""
    if around >= MOST_AROUND:
        raise BadText(cursor.here())
    if not cursor.skip("if"):
        return _read_or(cursor, around)
    condition = _read_tree(cursor, around + 1)
    cursor.take("then")
    first = _read_tree(cursor, around + 1)
    cursor.take("else")
    return ("if", condition, first, _read_tree(cursor, around + 1))


def _read_or(cursor, around):
    """Reads an E that begins with no if."""
    tree = _read_and(cursor, around)
    while cursor.skip("or"):
        tree = ("or", tree, _read_and(cursor, around))
    return tree


def _read_and(cursor, around):
    """Reads what stands between two `or`."""
    tree = _read_not(cursor, around)
    while cursor.skip("and"):
        tree = ("and", tree, _read_not(cursor, around))
    return tree


def _read_not(cursor, around):
    """Reads a comparison with any number of `not` in front of it."""
    many = 0
    while cursor.skip("not"):
        many += 1
    tree = _read_comparison(cursor, around)
    for _ in range(many):
        tree = ("not", tree)
    return tree


def _read_comparison(cursor, around):
    """Reads a sum, or two with a comparison between them."""
    left = _read_sum(cursor, around)
    mark = cursor.mark()
    if mark not in COMPARISONS:
        return left
    cursor.take(mark)
    right = _read_sum(cursor, around)
    word, is_turned, is_denied = COMPARISONS[mark]
    tree = (word, right, left) if is_turned else (word, left, right)
    return ("not", tree) if is_denied else tree


def _read_sum(cursor, around):
    """Reads products with `+` and `-` between them, and perhaps a sign."""
    is_negative = cursor.skip("-")
    tree = _read_product(cursor, around)
    if is_negative:
        tree = ("neg", tree)
    while cursor.mark() in SUM_WORDS:
        word = SUM_WORDS[cursor.take(cursor.mark())]
        tree = (word, tree, _read_product(cursor, around))
    return tree


def _read_product(cursor, around):
    """Reads operands with `*` and `/` between them."""
    tree = _read_operand(cursor, around)
    while cursor.mark() in PRODUCT_WORDS:
        word = PRODUCT_WORDS[cursor.take(cursor.mark())]
        tree = (word, tree, _read_operand(cursor, around))
    return tree


def _read_operand(cursor, around):
    """Reads one of the rest: what has no operator outside of its brackets."""
    mark = cursor.mark()
    if mark == "word":
        return _read_ref(cursor, around + 1)
    if mark in ("der", "pre", "size"):
        return _read_call_with_ref(cursor, around)
    if mark in ("initial", "sample", "sum"):
        return _read_call(cursor, around)
    if mark == "{":
        return _read_list(cursor, around)
    if mark == "(":
        cursor.take("(")
        tree = _read_tree(cursor, around + 1)
        cursor.take(")")
        return tree
    return _read_simple(cursor)


def _read_simple(cursor):
    """Reads an operand of one token that is no word."""
    mark = cursor.mark()
    if mark not in ("number", "true", "false", "time"):
        raise BadText(cursor.here())
    text = cursor.take(mark)
    if mark == "number":
        return ("num", read_decimal(text))
    if mark == "time":
        return ("time",)
    return ("truth", mark == "true")


def _read_call_with_ref(cursor, around):
    """Reads der, pre or size of a REF."""
    word = cursor.take(cursor.mark())
    cursor.take("(")
    ref = _read_ref(cursor, around + 1)
    cursor.take(")")
    return (word, ref)


def _read_call(cursor, around):
    """Reads initial, sample or sum with its Es."""
    word = cursor.take(cursor.mark())
    cursor.take("(")
    parts = []
    if word != "initial":
        parts.append(_read_tree(cursor, around + 1))
    if word == "sample":
        cursor.take(",")
        parts.append(_read_tree(cursor, around + 1))
    cursor.take(")")
    return (word, *parts)


def _read_list(cursor, around):
    """Reads Es in braces."""
    cursor.take("{")
    parts = [_read_tree(cursor, around + 1)]
    while cursor.skip(","):
        parts.append(_read_tree(cursor, around + 1))
    cursor.take("}")
    return ("list", tuple(parts))


def _read_ref(cursor, around):
    """Reads a REF; `around` is the number of the Es that its indices are inside of."""
    parts = [_read_ref_part(cursor, around)]
    while cursor.skip("."):
        parts.append(_read_ref_part(cursor, around))
    return ("ref", tuple(parts))


def _read_ref_part(cursor, around):
    """Reads a word, perhaps with an index."""
    word = cursor.take("word")
    if not cursor.skip("["):
        return (word, None)
    index = _read_tree(cursor, around)
    cursor.take("]")
    return (word, index)
