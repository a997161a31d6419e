"""The parts and the bounds of trees (points 12 and 13)."""

from linkwork.expressions import MOST_DEPTH, MOST_SIZE


def tree_parts(tree):
    """Returns the list of the parts of a tree that are trees."""
    word = tree[0]
    if word in ("num", "truth"):
        return []
    if word == "list":
        return list(tree[1])
    if word == "ref":
        return [index for _, index in tree[1] if index is not None]
    return list(tree[1:])


def is_within_bounds(tree):
    """Returns True if the tree is neither too large nor too deep, however deep it is."""
    waiting = [(tree, 1)]
    seen = 0
    while waiting:
        part, level = waiting.pop()
        seen += 1
        if seen > MOST_SIZE or level > MOST_DEPTH:
            return False
        waiting.extend([(inner, level + 1) for inner in tree_parts(part)])
    return True
