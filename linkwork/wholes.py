"""Whole expressions (point 18).

A scope says what words mean: `number(word)` returns the integer of a word, and
`size_of(ref)` the number of elements of a reference; both raise BadModel.
"""

from linkwork.errors import BadModel

MOST_WHOLE = 10000


class Numbers:
    """A scope in which only some words have a meaning."""

    def __init__(self, numbers):
        self.numbers = numbers

    def number(self, word):
        """Returns the integer of the word."""
        if word not in self.numbers:
            raise BadModel("a word has no integer")
        return self.numbers[word]

    def size_of(self, _):
        """Raises BadModel: there is nothing here that has a size."""
        raise BadModel("nothing has a size here")


def whole(tree, numbers):
    """Returns the value of a whole expression without "size"; raises BadModel."""
    return whole_value(tree, Numbers(numbers))


def whole_value(tree, scope):
    """Returns the value of a whole expression; raises BadModel."""
    if tree[0] == "if":
        return whole_value(tree[2] if is_true(tree[1], scope) else tree[3], scope)
    value = _unbounded(tree, scope)
    if not -MOST_WHOLE <= value <= MOST_WHOLE:
        raise BadModel("an integer is too large")
    return value


def is_true(tree, scope):
    """Returns True if the condition of whole expressions is true; raises BadModel."""
    word = tree[0]
    if word == "truth":
        return tree[1]
    if word == "not":
        return not is_true(tree[1], scope)
    if word == "and":
        return is_true(tree[1], scope) and is_true(tree[2], scope)
    if word == "or":
        return is_true(tree[1], scope) or is_true(tree[2], scope)
    if word not in ("less", "atmost", "same"):
        raise BadModel("a condition is not one of whole expressions")
    first, second = [whole_value(part, scope) for part in tree[1:]]
    if word == "less":
        return first < second
    return first <= second if word == "atmost" else first == second


def _unbounded(tree, scope):
    """Returns the value of a whole expression that is no if; only its parts are within the bounds."""
    word = tree[0]
    if word == "num" and tree[1].bottom == 1:
        return tree[1].top
    if word == "size":
        return scope.size_of(tree[1])
    if word == "ref" and len(tree[1]) == 1 and tree[1][0][1] is None:
        return scope.number(tree[1][0][0])
    if word == "neg":
        return -whole_value(tree[1], scope)
    if word not in ("add", "sub", "mul", "div"):
        raise BadModel("an expression is not whole")
    first, second = [whole_value(part, scope) for part in tree[1:]]
    if word == "add":
        return first + second
    if word == "sub":
        return first - second
    return first * second if word == "mul" else _divided(first, second)


def _divided(first, second):
    if second == 0 or first % second != 0:
        raise BadModel("a division is not whole")
    return first // second
