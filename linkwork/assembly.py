"""A model with its modifications, put together out of instances (points 17 to 21)."""

from linkwork.errors import BadKind, BadModel, ByZero, LinkworkError
from linkwork.expressions import evaluate, is_expression, uses
from linkwork.library import full_classes
from linkwork.names import is_name
from linkwork.places import Place, joined, kind_of_variable, marked, spot_of
from linkwork.ratios import Ratio
from linkwork.rules import BUILT_IN, fit_class, has_doubles
from linkwork.scopes import Scope
from linkwork.systems import Variable
from linkwork.translation import chosen, has_many, many, scalar
from linkwork.wholes import MOST_WHOLE, whole_value

MOST_ENTRIES = 300
MOST_INTEGERS = 40
MOST_IN_SIZE = 20


class Needed(LinkworkError):
    """What has to be worked out first; it never leaves this file.

    Values may depend on each other in chains that are longer than calls may be nested.
    """

    def __init__(self, key):
        LinkworkError.__init__(self, "something has to be worked out first")
        self.key = key


class Assembly:
    """The instances of a model, and the sizes and values in them as far as they are known.

    `entries` has a Variable or the name of a class for each path. `known` has what was worked
    out: its keys are pairs of "size", "value", "start" or "fixed" and a path.
    """

    def __init__(self, classes, name, changes):
        self.fulls = full_classes(classes)
        if name not in self.fulls or self.fulls[name].kind != "model":
            raise BadModel("there is no such model")
        if has_doubles(changes) or not fit_class(changes, self.fulls[name], self.fulls):
            raise BadModel("the model cannot be modified in this way")
        self.tables = {
            kind: {component.name: component for component in self.fulls[kind].components} for kind in self.fulls
        }
        self.places = {"": Place("", self.fulls[name], marked(changes, ""))}
        self.known = {}
        self.entries = {}
        self._expand()

    def component_of(self, kind, word):
        """Returns the component of the full class; raises BadModel if there is none."""
        if word not in self.tables.get(kind, {}):
            raise BadModel("there is no such component")
        return self.tables[kind][word]

    def place_at(self, path):
        """Returns the instance of a model or connector with this path, which is in one that was asked for before."""
        if path not in self.places:
            around, word, _ = spot_of(path)
            component = self.places[around].components[word]
            self.places[path] = Place(path, self.fulls[component.kind], component.changes)
        return self.places[path]

    def is_of(self, component, kind):
        """Returns True if the component is a "model" or "connector", whichever is asked for."""
        return component.kind in self.fulls and self.fulls[component.kind].kind == kind

    def fields(self, kind):
        """Returns the fields of a connector in order."""
        return sorted([(component.name, component.prefix == "flow") for component in self.fulls[kind].components])

    # What is known

    def known_at(self, what, path):
        """Returns what was worked out; raises Needed if it was not yet."""
        if (what, path) not in self.known:
            raise Needed((what, path))
        return self.known[(what, path)]

    def settled_sum(self, total, is_value):
        """Returns the expression of a sum, with few parts; raises BadModel, Needed.

        Sums of sums grow beyond all bounds, so those in values are worked out at once.
        """
        if not is_value:
            if not is_expression(total):
                raise BadModel("a sum is no expression")
            return total
        environment = self._environment(total)
        try:
            value = evaluate(total, environment)
        except (ByZero, BadKind):
            # Perhaps the sum is not needed: what stands for it raises an error only if it is evaluated.
            return ("div", ("num", Ratio(1)), ("num", Ratio(0)))
        return ("truth" if isinstance(value, bool) else "num", value)

    def _environment(self, expression):
        return {key: self.known_at("value", key[1]) for key in uses(expression)}

    def _settle(self, what, path):
        """Works something out, and before it what it needs; raises BadModel if it needs itself."""
        waiting = [(what, path)]
        while waiting:
            key = waiting[-1]
            try:
                if key not in self.known:
                    self.known[key] = self._worked_out(key)
                waiting.pop()
            except Needed as need:
                if need.key in waiting:
                    raise BadModel("a size or a value depends on itself") from None
                waiting.append(need.key)
        return self.known[(what, path)]

    def _worked_out(self, key):
        what, path = key
        around, word, index = spot_of(path)
        place = self.place_at(around)
        component = place.components[word]
        if what == "size":
            return self._size(component, place)
        given = component.value if what == "value" else dict(component.changes).get(what)
        is_truth = what == "fixed" or component.kind == "Boolean"
        if given is None:
            return _usual(what, is_truth)
        value = self._value(component, path, index, given)
        if isinstance(value, bool) != is_truth or component.kind == "Integer" and not _is_whole(value):
            raise BadModel("a value has the wrong kind")
        return value

    def _size(self, component, place):
        value = whole_value(component.size, Scope(self, place, {}, True))
        if not 0 <= value <= MOST_IN_SIZE:
            raise BadModel("a size is too small or too large")
        return value

    def _value(self, component, path, index, given):
        owner, tree = given
        scope = Scope(self, self.places[owner], {}, True)
        if not has_many(tree, scope):
            expression = scalar(tree, scope)
        elif component.size is None or many(tree, scope) != self.known_at("size", path.rpartition("[")[0]):
            raise BadModel("the elements of a value do not fit")
        else:
            expression = chosen(tree, scope, [index])[0]
        environment = self._environment(expression)
        try:
            return evaluate(expression, environment)
        except (ByZero, BadKind):
            raise BadModel("a value cannot be worked out") from None

    # Instances

    def _expand(self):
        """Puts all instances into `entries`."""
        waiting = [""]
        integers = 0
        while waiting:
            place = self.place_at(waiting.pop())
            for component in place.components.values():
                for path in self._paths(place, component):
                    place.parts.append((component, path))
                    self._enter(place, component, path)
                    if component.kind not in BUILT_IN:
                        waiting.append(path)
                    if component.kind == "Integer":
                        integers += 1
        if integers > MOST_INTEGERS:
            raise BadModel("there are too many Integer parameters")

    def _paths(self, place, component):
        """Returns the paths of the instances of a component."""
        path = joined(place.path, component.name)
        if component.size is None:
            return [path]
        return [f"{path}[{number}]" for number in range(1, self._settle("size", path) + 1)]

    def _enter(self, place, component, path):
        if len(self.entries) >= MOST_ENTRIES or not is_name(path):
            raise BadModel("there are too many instances, or a path is no name")
        if component.kind in BUILT_IN:
            self.entries[path] = self._variable(place, component, path)
        else:
            self.entries[path] = component.kind

    def _variable(self, place, component, path):
        kind = kind_of_variable(component, place.path == "")
        is_truth = component.kind == "Boolean"
        if kind == "parameter":
            return Variable(path, kind, is_truth, value=self._settle("value", path))
        start = self._settle("start", path)
        is_fixed = self._settle("fixed", path)
        if is_fixed and start is None:
            raise BadModel("what is fixed has no start")
        return Variable(path, kind, is_truth, start=start, fixed=is_fixed)


def _usual(what, is_truth):
    """Returns the value of what has no tree."""
    if what == "start":
        return None
    return False if is_truth else Ratio(0)


def _is_whole(value):
    return value.bottom == 1 and abs(value.top) <= MOST_WHOLE
