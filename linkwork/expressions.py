"""Expressions, their values and their texts (points 5, 6 and 22)."""

from linkwork.errors import BadKind, BadText, NoValue, TooLarge
from linkwork.kinds import MOST_ORDER, NEEDED_KINDS, is_well_formed, joined_kind, kind_of, parts_of
from linkwork.ratios import is_at_most, is_less, quotient, ratio_text, read_ratio

MOST_SIZE = 200
MOST_DEPTH = 30


def is_expression(value):
    """Returns True if the value is an expression of point 5, within its bounds."""
    waiting = [(value, 1)]
    seen = 0
    while waiting:
        part, level = waiting.pop()
        seen += 1
        if seen > MOST_SIZE or level > MOST_DEPTH or not is_well_formed(part):
            return False
        waiting.extend([(inner, level + 1) for inner in parts_of(part)])
    return kind_of(value, {}) != ""


def size(expression):
    """Returns the number of expressions in the expression, itself included."""
    return 1 + sum([size(part) for part in parts_of(expression)])


def depth(expression):
    """Returns 1, or 1 more than the depth of the deepest part."""
    return 1 + max([depth(part) for part in parts_of(expression)], default=0)


def uses(expression):
    """Returns the list of the different keys of variables that occur, in ascending order."""
    found = {}
    waiting = [expression]
    while waiting:
        part = waiting.pop()
        if part[0] in ("var", "pre"):
            found[part] = True
        waiting.extend(parts_of(part))
    return sorted(list(found), key=place_of)


def evaluate(expression, environment):
    """Returns the value; raises the first NoValue, BadKind or ByZero that evaluation meets."""
    word = expression[0]
    if word in ("num", "truth"):
        return expression[1]
    if word in ("var", "pre", "time", "initial"):
        return _looked_up(expression, environment)
    if word == "sample":
        return _is_sampled(expression[1], expression[2], environment)
    if word == "if":
        chosen = 2 if truth_value(expression[1], environment) else 3
        return evaluate(expression[chosen], environment)
    if word == "same":
        return _is_same(expression[1], expression[2], environment)
    if word in ("not", "and", "or"):
        return _joined_truths(expression, environment)
    return _calculated(word, [number_value(part, environment) for part in expression[1:]])


def renamed(expression, names):
    """Returns the expression with names replaced by those that the dict `names` has for them."""
    word = expression[0]
    if word in ("var", "pre"):
        name = expression[1]
        return (word, names.get(name, name), *expression[2:])
    if word in NEEDED_KINDS:
        return (word, *[renamed(part, names) for part in parts_of(expression)])
    return expression


def expression_text(expression):
    """Returns the text of the expression."""
    word = expression[0]
    if word in ("num", "truth"):
        return ratio_text(expression[1])
    if word in ("time", "initial"):
        return word
    if word == "var":
        return "@" + expression[1] + "'" * expression[2]
    if word == "pre":
        return "pre@" + expression[1]
    if word == "sample":
        return f"sample({ratio_text(expression[1])},{ratio_text(expression[2])})"
    inner = ",".join([expression_text(part) for part in parts_of(expression)])
    return f"{word}({inner})"


def read_expression(line):
    """Returns the expression of a text; raises BadText with at 0, TooLarge."""
    built = []
    for text, many in _in_postfix(line):
        if many == 0:
            built.append(_built_leaf(text))
        else:
            built[-many:] = [_built_whole(text, built[-many:])]
    expression, _, many, deepest = built[0]
    if many > MOST_SIZE or deepest > MOST_DEPTH:
        raise TooLarge("the expression is too large or too deep")
    return expression


def place_of(key):
    """Returns what keys are ordered by: (name, order), with "pre" of a name behind its orders."""
    order = key[2] if key[0] == "var" else MOST_ORDER + 1
    return (key[1], order)


# Evaluation


def _looked_up(key, environment):
    if key not in environment:
        raise NoValue("the environment has no value for a key")
    return environment[key]


def truth_value(expression, environment):
    """Returns the value, a truth; raises as evaluate, BadKind."""
    value = evaluate(expression, environment)
    if not isinstance(value, bool):
        raise BadKind("a number stands where a truth is needed")
    return value


def number_value(expression, environment):
    """Returns the value, a number; raises as evaluate, BadKind."""
    value = evaluate(expression, environment)
    if isinstance(value, bool):
        raise BadKind("a truth stands where a number is needed")
    return value


def _is_sampled(first, period, environment):
    periods = quotient(number_value(("time",), environment) - first, period)
    return periods.bottom == 1 and periods.top >= 0


def _is_same(first, second, environment):
    value = evaluate(first, environment)
    other = evaluate(second, environment)
    if isinstance(value, bool) != isinstance(other, bool):
        raise BadKind("a number is compared with a truth")
    return value == other


def _joined_truths(expression, environment):
    first = truth_value(expression[1], environment)
    if expression[0] == "not":
        return not first
    if first == (expression[0] == "or"):
        return first
    return truth_value(expression[2], environment)


def _calculated(word, numbers):
    if word == "neg":
        return -numbers[0]
    first, second = numbers
    if word == "add":
        return first + second
    if word == "sub":
        return first - second
    if word == "mul":
        return first * second
    if word == "div":
        return quotient(first, second)
    if word == "less":
        return is_less(first, second)
    return is_at_most(first, second)


# Reading
#
# A line may be far deeper than any expression, so it is read without recursion.
# What has been read is kept as an expression, its kind, its size and its depth.


def _in_postfix(line):
    """Returns pairs: the leaves with 0, and behind its parts each word with their number."""
    found = []
    open_words = []
    counts = []
    for at, piece in enumerate(line.split(",")):
        if at > 0 and not open_words:
            raise BadText(0)
        if at > 0:
            counts[-1] += 1
        *words, last = piece.split("(")
        leaf = last.rstrip(")")
        open_words.extend(words)
        counts.extend([1] * len(words))
        found.append((leaf, 0))
        for _ in range(len(last) - len(leaf)):
            if not open_words:
                raise BadText(0)
            found.append((open_words.pop(), counts.pop()))
    if open_words:
        raise BadText(0)
    return found


def _built_leaf(text):
    if text in ("time", "initial"):
        leaf = (text,)
    elif text in ("true", "false"):
        leaf = ("truth", text == "true")
    elif text.startswith("@"):
        name = text[1:].rstrip("'")
        leaf = ("var", name, len(text) - 1 - len(name))
    elif text.startswith("pre@"):
        leaf = ("pre", text[4:])
    else:
        leaf = ("num", read_ratio(text))
    return _checked_leaf(leaf)


def _built_whole(word, parts):
    expressions = [part[0] for part in parts]
    if word == "sample":
        return _built_sample(expressions)
    if word not in NEEDED_KINDS or len(parts) != len(NEEDED_KINDS[word]):
        raise BadText(0)
    kind = joined_kind(word, [part[1] for part in parts])
    if kind == "":
        raise BadText(0)
    many = 1 + sum([part[2] for part in parts])
    deepest = 1 + max([part[3] for part in parts])
    return ((word, *expressions), kind, many, deepest)


def _built_sample(numbers):
    for number in numbers:
        if number[0] != "num":
            raise BadText(0)
    return _checked_leaf(("sample", *[number[1] for number in numbers]))


def _checked_leaf(leaf):
    if not is_well_formed(leaf):
        raise BadText(0)
    return (leaf, kind_of(leaf, {}), 1, 1)
