"""Runs by the words of point 59, out of the functions that it names, and what holds in them."""

import random

from building import num, pre, var
from linkwork.beginning import begin
from linkwork.derivatives import reduced, unknowns
from linkwork.errors import TooMany
from linkwork.events import fire, next_event, triggered
from linkwork.expressions import evaluate
from linkwork.ratios import Ratio, is_at_most, is_less
from linkwork.steps import step
from linkwork.systems import System, Variable


def next_time(system, plan, time):
    start, end, length, _ = plan
    grid = start
    while is_less(time, grid):
        grid = grid - length
    while not is_less(time, grid):
        grid = grid + length
    event = next_event(system, time)
    times = [end, grid] + ([] if event is None else [event])
    least = times[0]
    for other in times:
        least = other if is_less(other, least) else least
    return least


def plain_run(system, signals, plan):
    instants = [(0, begin(system, signals, plan[0]))]
    instants.append(fire(system, instants[0], triggered(system, None, instants[0])))
    while True:
        now = instants[-1]
        names = triggered(system, instants[-2], now)
        if not names and is_at_most(plan[1], now[1][("time",)]):
            return instants
        if len(instants) >= 200 or names and now[0] >= 20:
            raise TooMany("too many")
        if names:
            instants.append(fire(system, now, names))
        else:
            time = next_time(system, plan, now[1][("time",)])
            instants.append((0, step(system, now[1], signals, time, plan[3])))


def assert_that_it_holds(test, system, instants):
    """Point 60."""
    equations = reduced(system)
    complete = set(unknowns(system)) | set(instants[0][1])
    for at, (count, environment) in enumerate(instants):
        test.assertEqual(set(environment), complete)
        for _, _, left, right in equations:
            test.assertEqual(evaluate(left, environment), evaluate(right, environment))
        test.assertIs(environment[("initial",)], at == 0)
        last = at == len(instants) - 1 or instants[at + 1][1][("time",)] != environment[("time",)]
        if last:
            test.assertEqual(triggered(system, instants[at - 1] if at else None, (count, environment)), [])
        if at > 0 and count == 0:
            for name, variable in system.variables.items():
                if variable.kind == "discrete":
                    test.assertEqual(environment[var(name)], instants[at - 1][1][var(name)])
    first = instants[0][1]
    for left, right in system.initials.values():
        test.assertEqual(evaluate(left, first), evaluate(right, first))
    for name, variable in system.variables.items():
        if variable.kind == "state" and variable.fixed:
            test.assertEqual(first[var(name)], variable.start)


def random_model(source):
    """A system with events, signals and a plan."""
    names = ["x", "y"][:source.randint(1, 2)]
    variables = {"n": Variable("n", "discrete", start=Ratio(source.randint(0, 2))), "u": Variable("u", "input"),
                 "b": Variable("b", "discrete", truth=True)}
    equations = {}
    for at, name in enumerate(names):
        variables[name] = Variable(name, "state", start=Ratio(source.randint(-2, 2)), fixed=source.random() < 0.5)
        right = ("add", ("mul", num(source.randint(-1, 1)), var(source.choice(names))),
                 source.choice([var("n"), var("u"), num(1), ("time",), ("if", var("b"), num(1), pre("x"))]))
        equations[f"e{at}"] = (var(name, source.choice((0, 1, 1, 1))), right)
    if source.random() < 0.4 and len(names) == 2:
        equations["e0"] = (var("x", 1), ("add", var("y"), var("n")))
        course = source.choice([var("u"), ("mul", ("time",), ("time",)), ("add", var("u"), num(1))])
        equations["e1"] = (var("x"), course)
    limit = num(source.randint(-2, 2), 2)
    conditions = [("less", var("x"), limit), ("atmost", ("time",), num(1)), ("sample", Ratio(0), Ratio(1, 2)),
                  ("less", num(3, 4), ("time",)), ("less", limit, var(names[-1])), ("initial",), var("b"),
                  ("and", ("not", var("b")), ("less", var("n"), num(4))), ("same", var("n"), num(2))]
    acts = [("assign", "n", ("add", var("n"), num(1))), ("assign", "b", ("not", var("b"))),
            ("reset", names[-1], ("mul", num(-1, 2), var(names[0]))), ("reset", "x", num(1))]
    whens = {}
    for at in range(source.randint(0, 3)):
        free = [act for act in acts if act[0] == "reset" or act[1] not in
                [other[1] for _, used in whens.values() for other in used if other[0] == "assign"]]
        chosen = source.sample(free, source.randint(0, min(2, len(free))))
        if len({act[1] for act in chosen}) == len(chosen):
            whens[f"w{at}"] = (source.choice(conditions), chosen)
    start = Ratio(source.randint(-1, 1), 2)
    plan = (start, start + Ratio(source.randint(0, 6), 3), Ratio(source.randint(1, 4), 4),
            source.choice(("backward", "trapezoid")))
    signals = {"u": [Ratio(source.randint(-1, 1)) for _ in range(source.randint(0, 3))]}
    return System(variables, equations, {}, whens), signals, plan


def models(seed, many):
    source = random.Random(seed)
    return [random_model(source) for _ in range(many)]
