"""Systems of variables and equations (points 7 and 8)."""

from linkwork.errors import BadSystem
from linkwork.expressions import is_expression, number_value, uses
from linkwork.kinds import kind_of
from linkwork.names import is_name
from linkwork.ratios import Ratio

MOST_VARIABLES = 100
MOST_EQUATIONS = 100
MOST_INITIALS = 100
MOST_WHENS = 40
MOST_ACTS = 20

VARIABLE_KINDS = ("state", "discrete", "parameter", "input")


class Variable:
    """A variable of a system (point 7)."""

    def __init__(self, name, kind, truth=False, value=None, start=None, fixed=False):
        self.name = name
        self.kind = kind
        self.truth = truth
        self.value = value
        self.start = start
        self.fixed = fixed


class System:
    """Variables, equations, initial equations and whens by their names (point 8)."""

    def __init__(self, variables, equations, initials, whens):
        self.variables = dict(variables)
        self.equations = dict(equations)
        self.initials = dict(initials)
        self.whens = {name: _copied_when(whens[name]) for name in whens}


def check(system):
    """Raises BadSystem if the system is not good."""
    if not _is_good(system):
        raise BadSystem("the system is not good")


def residuals(system, environment):
    """Returns the left side less the right side for each equation; raises as evaluate, BadKind."""
    found = {}
    for name in sorted(list(system.equations)):
        left, right = system.equations[name]
        first = number_value(left, environment)
        found[name] = first - number_value(right, environment)
    return found


def holds(system, environment):
    """Returns True if all residuals are 0; raises as residuals."""
    found = residuals(system, environment)
    return all([found[name].top == 0 for name in found])


def merged(first, second):
    """Returns the system with all that is in one of both; raises BadSystem."""
    both = System(
        _joined(first.variables, second.variables),
        _joined(first.equations, second.equations),
        _joined(first.initials, second.initials),
        _joined(first.whens, second.whens),
    )
    if not _is_small(both):
        raise BadSystem("there is too much in both systems together")
    return both


def names_of(system, kind):
    """Returns the ascending list of the names of the variables of this kind."""
    return [name for name in sorted(list(system.variables)) if system.variables[name].kind == kind]


def _copied_when(when):
    if isinstance(when, tuple) and len(when) == 2 and isinstance(when[1], list):
        return (when[0], list(when[1]))
    return when


def _joined(first, second):
    for name in first:
        if name in second:
            raise BadSystem("both systems have the same name")
    return {**first, **second}


# What a good system is


def _is_good(system):
    variables = system.variables
    if not _is_small(system):
        return False
    if not all([_is_good_variable(name, variables[name]) for name in variables]):
        return False
    equations = list(system.equations.items()) + list(system.initials.items())
    if not all([_is_good_equation(name, pair, variables) for name, pair in equations]):
        return False
    if not all([_is_good_when(name, pair, variables) for name, pair in system.whens.items()]):
        return False
    return _are_different(_assigned_names(system))


def _is_small(system):
    return (
        len(system.variables) <= MOST_VARIABLES
        and len(system.equations) <= MOST_EQUATIONS
        and len(system.initials) <= MOST_INITIALS
        and len(system.whens) <= MOST_WHENS
    )


def _is_good_variable(name, variable):
    if not isinstance(variable, Variable) or not is_name(name) or variable.name != name:
        return False
    if variable.kind not in VARIABLE_KINDS or not isinstance(variable.truth, bool):
        return False
    if variable.truth and variable.kind not in ("discrete", "parameter"):
        return False
    if (variable.value is not None) != (variable.kind == "parameter"):
        return False
    if variable.start is not None and variable.kind not in ("state", "discrete"):
        return False
    if not isinstance(variable.fixed, bool) or variable.fixed and variable.start is None:
        return False
    return _is_none_or_of_kind(variable.value, variable) and _is_none_or_of_kind(variable.start, variable)


def _is_none_or_of_kind(value, variable):
    return value is None or isinstance(value, (Ratio, bool)) and isinstance(value, bool) == variable.truth


def _is_good_equation(name, pair, variables):
    if not is_name(name) or not isinstance(pair, tuple) or len(pair) != 2:
        return False
    return all([_is_good_expression(side, "number", variables) for side in pair])


def _is_good_expression(expression, kind, variables):
    """Returns True if it is an expression of this kind over the variables."""
    if not is_expression(expression):
        return False
    if not all([_is_good_use(key, variables) for key in uses(expression)]):
        return False
    return kind_of(expression, {name: _kind(variables[name]) for name in variables}) == kind


def _is_good_use(key, variables):
    name = key[1]
    if name not in variables:
        return False
    kind = variables[name].kind
    if key[0] == "pre":
        return kind in ("state", "discrete")
    return key[2] == 0 or kind in ("state", "input")


def _kind(variable):
    return "truth" if variable.truth else "number"


def _is_good_when(name, pair, variables):
    if not is_name(name) or not isinstance(pair, tuple) or len(pair) != 2:
        return False
    condition, acts = pair
    if not isinstance(acts, list) or len(acts) > MOST_ACTS:
        return False
    if not _is_good_expression(condition, "truth", variables):
        return False
    return all([_is_good_act(act, variables) for act in acts]) and _are_different([act[1] for act in acts])


def _is_good_act(act, variables):
    if not isinstance(act, tuple) or len(act) != 3:
        return False
    word, name, expression = act
    if not is_name(name) or name not in variables:
        return False
    variable = variables[name]
    if (word, variable.kind) not in (("assign", "discrete"), ("reset", "state")):
        return False
    return _is_good_expression(expression, _kind(variable), variables)


def _assigned_names(system):
    return [act[1] for _, acts in system.whens.values() for act in acts if act[0] == "assign"]


def _are_different(names):
    return len(set(names)) == len(names)
