"""The lines and the links that the statements of instances make (points 25 to 28)."""

from linkwork.errors import BadModel
from linkwork.places import joined
from linkwork.scopes import Scope
from linkwork.translation import has_many, many, scalar, spread, tree_kind
from linkwork.wholes import is_true, whole_value

MOST_ROUNDS_OF_LOOPS = 2000


class Lines:
    """What the statements of one instance make: pairs by the names of lines, and links of ends."""

    def __init__(self):
        self.equations = {}
        self.initials = {}
        self.whens = {}
        self.links = []


class Writer:
    """Makes the lines of the instances of a model, and counts the rounds of all loops.

    What a statement makes is a list of tuples: "equal" or "when" with the name of the line and a
    pair, or "connect" with the name of the statement and a link.
    """

    def __init__(self, assembly):
        self.assembly = assembly
        self.rounds = 0

    def lines_of(self, place):
        """Returns the Lines of the instance of a model; raises BadModel."""
        lines = Lines()
        scope = Scope(self.assembly, place, {}, False)
        for word, name, made in self._all_made(place.full.equations, joined(place.path, "e"), scope):
            if word == "equal":
                lines.equations[name] = made
            elif word == "when":
                lines.whens[name] = made
            else:
                lines.links.append(made)
        for _, name, made in self._all_made(place.full.initials, joined(place.path, "i"), scope):
            lines.initials[name] = made
        return lines

    def _all_made(self, statements, start, scope):
        """Returns what the statements make, whose names are the start and their numbers."""
        found = []
        for number, statement in enumerate(statements, 1):
            found.extend(self._made(statement, f"{start}{number}", scope))
        return found

    def _made(self, statement, name, scope):
        word = statement[0]
        if word == "equal":
            return _equal_lines(statement, name, scope)
        if word == "for":
            return self._made_in_rounds(statement, name, scope)
        if word == "if":
            chosen = statement[2] if is_true(statement[1], scope) else statement[3]
            return self._all_made(chosen, name + ".", scope)
        if word == "when":
            acts = [(act[0], scope.path_of(act[1]), _scalar(act[2], scope)) for act in statement[2]]
            return [("when", name, (_scalar(statement[1], scope), acts))]
        return [("connect", name, link) for link in self._links(statement, scope)]

    def _made_in_rounds(self, statement, name, scope):
        _, word, first_tree, last_tree, statements = statement
        first = whole_value(first_tree, scope)
        last = whole_value(last_tree, scope)
        self.rounds += max(0, last - first + 1)
        if self.rounds > MOST_ROUNDS_OF_LOOPS:
            raise BadModel("the loops have too many rounds")
        found = []
        for number in range(first, last + 1):
            found.extend(self._all_made(statements, f"{name}[{number}].", scope.inside(word, number)))
        return found

    # Connections

    def _links(self, statement, scope):
        """Returns the links of a connect; raises BadModel if the connectors do not fit."""
        first, second = [scope.steps(ref) for ref in statement[1:]]
        self._check_connector(first)
        self._check_connector(second)
        if self.assembly.fields(first[-1].kind) != self.assembly.fields(second[-1].kind):
            raise BadModel("two connectors have not the same fields")
        ends, others = [_ends(ref, scope) for ref in statement[1:]]
        if scope.names_many(statement[1]) != scope.names_many(statement[2]) or len(ends) != len(others):
            raise BadModel("the connectors are not as many on both sides")
        return list(zip(ends, others))

    def _check_connector(self, steps):
        # What stands before a connector is a model: connectors have none as components.
        if len(steps) > 2 or not self.assembly.is_of(steps[-1], "connector"):
            raise BadModel("a reference of a connect names no connector that it may name")


def _ends(ref, scope):
    """Returns the ends that a reference names."""
    paths = scope.paths_of(ref) if scope.names_many(ref) else [scope.path_of(ref)]
    return [(path, len(ref[1]) == 1) for path in paths]


def _equal_lines(statement, name, scope):
    """Returns the lines of two equal sides; raises BadModel."""
    left, right = statement[1:]
    is_many = has_many(left, scope)
    kinds = [tree_kind(left, scope), tree_kind(right, scope)]
    if is_many != has_many(right, scope) or kinds != ["number", "number"]:
        raise BadModel("two sides do not fit")
    if not is_many:
        return [("equal", name, (scalar(left, scope), scalar(right, scope)))]
    if many(left, scope) != many(right, scope):
        raise BadModel("two sides have not as many elements")
    pairs = list(zip(spread(left, scope), spread(right, scope)))
    return [("equal", f"{name}[{number}]", pair) for number, pair in enumerate(pairs, 1)]


def _scalar(tree, scope):
    if has_many(tree, scope):
        raise BadModel("something with elements stands where a scalar is needed")
    return scalar(tree, scope)
