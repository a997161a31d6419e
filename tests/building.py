"""Short names for what the tests are made of."""

from linkwork.ratios import Ratio
from linkwork.systems import System, Variable

TIME = ("time",)
INITIAL = ("initial",)
TRUE = ("truth", True)
FALSE = ("truth", False)


def num(top, bottom=1):
    return ("num", Ratio(top, bottom))


def var(name, order=0):
    return ("var", name, order)


def pre(name):
    return ("pre", name)


def tower(depth, top=None):
    """An expression of this depth: `neg` upon `neg`."""
    expression = num(1) if top is None else top
    for _ in range(depth - 1):
        expression = ("neg", expression)
    return expression


def wide(size):
    """An expression of this odd size that is nowhere deep."""
    parts = [num(1) for _ in range((size + 1) // 2)]
    while len(parts) > 1:
        pairs = [("add", parts[k], parts[k + 1]) for k in range(0, len(parts) - 1, 2)]
        parts = pairs + parts[len(pairs) * 2:]
    return parts[0]


def shape(value):
    """The value with its Ratios, objects and truths told apart, so that it can be compared."""
    if isinstance(value, Ratio):
        return ("Ratio", value.top, value.bottom)
    if isinstance(value, bool):
        return ("bool", value)
    if isinstance(value, (list, tuple)):
        return (value.__class__.__name__, [shape(item) for item in value])
    if isinstance(value, dict):
        return ("dict", [(shape(key), shape(value[key])) for key in value])
    if hasattr(value, "__dict__"):
        return (value.__class__.__name__, shape(vars(value)))
    return value


def containers(value):
    """The identities of all lists and dicts in a value, those of objects left out."""
    found = set()
    if isinstance(value, (list, dict)):
        found.add(id(value))
    if isinstance(value, dict):
        value = [item for pair in value.items() for item in pair]
    if isinstance(value, (list, tuple)):
        for item in value:
            found |= containers(item)
    return found


def states(*names):
    """States by their names."""
    return {name: Variable(name, "state") for name in names}


def system(variables=None, equations=None, initials=None, whens=None):
    return System(variables or {}, equations or {}, initials or {}, whens or {})
