"""Events, and runs with them (points 57 to 59)."""

from linkwork.beginning import begin_of
from linkwork.errors import BadReset, TooMany
from linkwork.expressions import evaluate, number_value, truth_value
from linkwork.kinds import MOST_ORDER, parts_of
from linkwork.ratios import Ratio, is_at_most, is_less, quotient
from linkwork.states import Layout, free_of, matrix_of
from linkwork.steps import carried, completed, step_of
from linkwork.systems import names_of

MOST_ROUNDS = 20
MOST_INSTANTS = 200


def triggered(system, before, now):
    """Returns the names of the whens that are triggered at an instant; raises as evaluate."""
    found = []
    for name in sorted(list(system.whens)):
        condition = system.whens[name][0]
        if truth_value(condition, now[1]) and not _was_true(condition, before, now):
            found.append(name)
    return found


def fire(system, now, names):
    """Returns the instant after one at which whens are fired; raises as evaluate, free_unknowns, BadReset."""
    acts = _acts_with_values(system, now[1], names)
    return _instant_after(Layout(system), now, acts)


def fired(layout, now, names):
    """Returns the instant after one at which whens are fired; raises as fire."""
    return _instant_after(layout, now, _acts_with_values(layout.system, now[1], names))


def next_event(system, time):
    """Returns the least later time of an event, or None."""
    waiting = [condition for condition, _ in system.whens.values()]
    found = []
    while waiting:
        part = waiting.pop()
        found.extend(_event_times(part, time))
        waiting.extend(parts_of(part))
    return _least(found) if found else None


def run(system, signals, plan):
    """Returns the instants of the run by a plan; raises the first error, and TooMany."""
    layout = Layout(system)
    first = (0, begin_of(layout, signals, plan[0]))
    instants = [first, fired(layout, first, triggered(system, None, first))]
    while True:
        now = instants[-1]
        names = triggered(system, instants[-2], now)
        if is_over(plan, now, names):
            return instants
        if len(instants) == MOST_INSTANTS or names and now[0] == MOST_ROUNDS:
            raise TooMany("the run has too many instants")
        instants.append(next_instant(layout, signals, plan, now, names))


def is_over(plan, now, names):
    """Returns True if a run is over at an instant at which the whens with these names are triggered."""
    return not names and is_at_most(plan[1], now[1][("time",)])


def next_instant(layout, signals, plan, now, names):
    """Returns the instant after one, not the first, at which these whens are triggered; raises as fire, step."""
    if names:
        return fired(layout, now, names)
    start, end, length, method = plan
    time = now[1][("time",)]
    event = next_event(layout.system, time)
    times = [end, _next_on_grid(start, length, time)]
    if event is not None:
        times.append(event)
    return (0, step_of(layout, now[1], signals, _least(times), method))


# What triggers whens


def _was_true(condition, before, now):
    """Returns True if the condition of a when was true before an instant."""
    if truth_value(("initial",), now[1]):
        environment = {key: now[1][key] for key in now[1]}
        environment[("initial",)] = False
        return truth_value(_without_samples(condition), environment)
    if now[0] == 0:
        return truth_value(_without_samples(condition), before[1])
    return truth_value(condition, before[1])


def _without_samples(expression):
    """Returns the expression with False in the place of every "sample"."""
    if expression[0] == "sample":
        return ("truth", False)
    parts = parts_of(expression)
    if not parts:
        return expression
    return (expression[0], *[_without_samples(part) for part in parts])


# What firing does


def _acts_with_values(system, environment, names):
    """Returns the acts of some whens, with values in the place of expressions; raises as evaluate."""
    found = []
    for when in names:
        for word, name, expression in system.whens[when][1]:
            found.append((word, name, _value_for(system.variables[name], expression, environment)))
    return found


def _value_for(variable, expression, environment):
    if variable.truth:
        return truth_value(expression, environment)
    return number_value(expression, environment)


def _instant_after(layout, now, acts):
    """Returns the instant after another one, at which acts change values; raises as free_unknowns, BadReset."""
    count, environment = now
    known = _known_after(layout.system, environment, acts)
    rows, constants = matrix_of(layout, known)
    resets = [(("var", name, 0), value) for word, name, value in acts if word == "reset"]
    free = free_of(layout, rows, sorted([key for key, _ in resets]))
    values = _values_of_free(free, resets, environment)
    rules = [({key: Ratio(1)}, values[key]) for key in free]
    return (count + 1, completed(layout, known, rows, constants, rules))


def _known_after(system, environment, acts):
    """Returns the environment of what is known without the rows; raises NoValue."""
    known = carried(system, environment)
    known[("time",)] = evaluate(("time",), environment)
    for name in names_of(system, "input"):
        for order in range(MOST_ORDER + 1):
            known[("var", name, order)] = evaluate(("var", name, order), environment)
    for word, name, value in acts:
        if word == "assign":
            known[("var", name, 0)] = value
    return known


def _values_of_free(free, resets, environment):
    """Returns the values of the free unknowns, those before or those of resets; raises BadReset."""
    values = {key: evaluate(key, environment) for key in free}
    seen = {}
    for key, value in resets:
        if key not in values or key in seen:
            raise BadReset("a state is not free, or is reset twice")
        values[key] = value
        seen[key] = True
    return values


# Times


def _event_times(part, time):
    """Returns the list of the least later time of the events that a part of a condition tells by itself."""
    word = part[0]
    if word == "sample":
        return [part[1] if is_less(time, part[1]) else _next_on_grid(part[1], part[2], time)]
    if word not in ("less", "atmost"):
        return []
    numbers = [part[3 - at] for at in (1, 2) if part[at][0] == "time"]
    return [number[1] for number in numbers if number[0] == "num" and is_less(time, number[1])]


def _next_on_grid(start, length, time):
    """Returns the least start + k * length, with an integer k, that is later than the time."""
    periods = quotient(time - start, length)
    return start + Ratio(periods.top // periods.bottom + 1) * length


def _least(times):
    found = times[0]
    for time in times[1:]:
        if is_less(time, found):
            found = time
    return found
