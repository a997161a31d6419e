"""Trees taken apart into elements, and made into expressions (points 19, 20 and 26)."""

from linkwork.errors import BadModel, ByZero
from linkwork.expressions import evaluate
from linkwork.kinds import joined_kind
from linkwork.ratios import Ratio
from linkwork.sums import sum_of
from linkwork.trees import tree_parts

NOT_IN_VALUES = ("time", "initial", "sample", "der", "pre")
WITH_REFS = ("ref", "der", "pre")
KINDS_WITH_DERIVATIVES = ("state", "input")
KINDS_BEFORE_EVENTS = ("state", "discrete")

# Which parts have elements where something with elements has parts: True for those that have.
SHAPES = {
    "neg": ((True,),),
    "add": ((True, True),),
    "sub": ((True, True),),
    "mul": ((True, False), (False, True)),
    "div": ((True, False),),
    "if": ((False, True, True),),
}


def has_many(tree, scope):
    """Returns True if the tree has elements and False if it is a scalar; raises BadModel if it is neither.

    Of sizes and indices nothing is asked here, as their values may depend on those of the tree.
    """
    word = tree[0]
    if scope.is_value and word in NOT_IN_VALUES:
        raise BadModel("the tree of a value has what values have not")
    if word in WITH_REFS:
        return _names_many(tree, scope)
    if word == "size":
        return False
    shapes = tuple([has_many(part, scope) for part in tree_parts(tree)])
    if word == "sum":
        _require(shapes[0])
        return False
    if word == "list" or any(shapes):
        _require(not any(shapes) if word == "list" else shapes in SHAPES.get(word, ()))
        return True
    return False


def many(tree, scope):
    """Returns the number of elements of a tree that has elements; raises BadModel."""
    word = tree[0]
    if word in WITH_REFS:
        return scope.many_of(_ref(tree))
    if word == "list":
        return len(tree[1])
    numbers = [many(part, scope) for part in tree[1:] if has_many(part, scope)]
    if min(numbers) < max(numbers):
        raise BadModel("the numbers of elements are different")
    return numbers[0]


def scalar(tree, scope):
    """Returns the expression of a scalar; raises BadModel."""
    word = tree[0]
    if word in ("num", "truth", "time", "initial"):
        return tree
    if word == "ref" and scope.is_number(tree):
        return ("num", Ratio(scope.number(tree[1][0][0])))
    if word in WITH_REFS:
        return _key(word, scope.path_of(_ref(tree)))
    if word == "size":
        return ("num", Ratio(scope.size_of(tree[1])))
    if word == "sample":
        return _sample(tree)
    if word == "sum":
        return scope.assembly.settled_sum(sum_of(spread(tree[1], scope)), scope.is_value)
    return (word, *[scalar(part, scope) for part in tree[1:]])


def spread(tree, scope):
    """Returns the expressions of all elements of a tree that has elements; raises BadModel."""
    return chosen(tree, scope, list(range(1, many(tree, scope) + 1)))


def chosen(tree, scope, indices):
    """Returns the expressions of the elements with these indices; raises BadModel."""
    word = tree[0]
    if word in WITH_REFS:
        return [_key(word, path) for path in scope.chosen_paths(_ref(tree), indices)]
    if word == "list":
        return [scalar(tree[1][number - 1], scope) for number in indices]
    columns = [_column(part, scope, indices) for part in tree[1:]]
    return [(word, *parts) for parts in zip(*columns)]


def tree_kind(tree, scope):
    """Returns the kind of a tree or of its elements, "number" or "truth"; "" where kinds do not fit.

    Unlike their expressions, elements have a kind also if there are none.
    """
    word = tree[0]
    if word in ("num", "time", "size"):
        return "number"
    if word in ("truth", "initial", "sample"):
        return "truth"
    if word == "ref" and scope.is_number(tree):
        return "number"
    if word in WITH_REFS:
        return "truth" if scope.steps(_ref(tree))[-1].kind == "Boolean" else "number"
    kinds = [tree_kind(part, scope) for part in tree_parts(tree)]
    return kinds[0] if word in ("sum", "list") else joined_kind(word, kinds)


def _require(holds):
    if not holds:
        raise BadModel("the parts of a tree do not fit")


def _ref(tree):
    return tree if tree[0] == "ref" else tree[1]


def _names_many(tree, scope):
    """Returns True if the reference of the tree has elements; raises BadModel if it is not right here."""
    word = tree[0]
    if word == "ref" and scope.is_number(tree):
        return False
    kind = scope.variable_kind(_ref(tree))
    _require(not scope.is_value or kind == "parameter")
    _require(word != "der" or kind in KINDS_WITH_DERIVATIVES)
    _require(word != "pre" or kind in KINDS_BEFORE_EVENTS)
    return scope.names_many(_ref(tree))


def _key(word, path):
    if word == "pre":
        return ("pre", path)
    return ("var", path, 1 if word == "der" else 0)


def _sample(tree):
    first, period = [_constant(part) for part in tree[1:]]
    _require(period.top > 0)
    return ("sample", first, period)


def _constant(tree):
    """Returns the Ratio of what is written with numbers, signs and + - * / alone."""
    _require(_is_constant(tree))
    try:
        return evaluate(tree, {})
    except ByZero:
        raise BadModel("a part of sample is divided by 0") from None


def _is_constant(tree):
    if tree[0] == "num":
        return True
    return tree[0] in ("neg", "add", "sub", "mul", "div") and all([_is_constant(part) for part in tree[1:]])


def _column(part, scope, indices):
    """Returns the expressions of a part for each of the indices: a scalar is the same for all of them."""
    if has_many(part, scope):
        return chosen(part, scope, indices)
    expression = scalar(part, scope)
    return [expression for _ in indices]
