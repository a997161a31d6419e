"""The section "The interface": what exists, where it is defined, and the names of its arguments."""

import importlib
import inspect
import unittest

import linkwork.errors
from linkwork import events

FUNCTIONS = {
    "ratios": ["quotient(first, second)", "is_less(first, second)", "is_at_most(first, second)", "ratio_text(value)",
               "read_ratio(line)", "power(base, exponent)"],
    "expressions": ["is_expression(value)", "size(expression)", "depth(expression)", "uses(expression)",
                    "evaluate(expression, environment)", "renamed(expression, names)", "expression_text(expression)",
                    "read_expression(line)"],
    "systems": ["check(system)", "residuals(system, environment)", "holds(system, environment)",
                "merged(first, second)"],
    "tokens": ["tokens(source)"],
    "syntax": ["parse_source(source)", "parse_tree(source)"],
    "printing": ["tree_text(tree)", "source_text(classes)"],
    "library": ["check_library(classes)", "full_class(classes, name)", "put_over(outer, inner)"],
    "instances": ["instances(classes, name, changes)"],
    "wholes": ["whole(tree, numbers)"],
    "connections": ["sets(ends, links)", "set_equations(ends, fields)"],
    "flat": ["flatten(classes, name, changes)"],
    "balance": ["counts(system)", "is_balanced(system)", "own_counts(classes, name, path)",
                "unbalanced(classes, name)"],
    "matching": ["graph(system, keys)", "tops(system)", "match(graph)", "parts(graph)", "lack(graph)"],
    "blocks": ["blocks(graph)"],
    "linear": ["rank(rows)", "kernel(rows)", "solve_linear(rows, constants)", "contradiction(rows, constants)"],
    "tearing": ["torn(rows, tears)", "best_tears(rows)", "solve_torn(rows, constants, tears)"],
    "rows": ["is_linear(expression, keys)", "row(expression, keys, environment)"],
    "derivatives": ["derivative(system, expression)", "offsets(system)", "reduced(system)", "unknowns(system)"],
    "states": ["matrix(system, environment)", "free_unknowns(system, environment, preferred=())"],
    "beginning": ["signal_value(coefficients, order, time)", "base(system, signals, time, initial)",
                  "begin(system, signals, time)", "blame(system, signals, time)"],
    "steps": ["step(system, environment, signals, time, method)"],
    "events": ["triggered(system, before, now)", "fire(system, now, names)", "next_event(system, time)",
               "run(system, signals, plan)"],
    "coupled": ["feed_order(plant)", "whole(plant)", "begin_all(plant, signals, time)",
                "macro_step(plant, environments, signals, length, method)"],
    "checking": ["faults(system, signals, plan, instants)"],
}
CLASSES = {
    "ratios": ["Ratio(numerator, denominator=1)"],
    "systems": ["Variable(name, kind, truth=False, value=None, start=None, fixed=False)",
                "System(variables, equations, initials, whens)"],
    "classes": ["Class(kind, name, extends, components, equations, initials)",
                "Component(prefix, kind, name, size, changes, value)"],
}


class InterfaceTest(unittest.TestCase):
    def check(self, table, is_right):
        for place, texts in table.items():
            module = importlib.import_module(f"linkwork.{place}")
            for text in texts:
                name, _, rest = text.partition("(")
                found = getattr(module, name)
                self.assertTrue(is_right(found), text)
                self.assertEqual(found.__module__, f"linkwork.{place}", text)
                self.assertEqual(str(inspect.signature(found)), "(" + rest, text)

    def test_functions(self):
        self.check(FUNCTIONS, inspect.isfunction)

    def test_classes(self):
        self.check(CLASSES, inspect.isclass)

    def test_values(self):
        self.assertEqual((events.MOST_ROUNDS, events.MOST_INSTANTS), (20, 200))

    def test_errors_derive_from_the_base_class_alone(self):
        for place in [*FUNCTIONS, "errors"]:
            module = importlib.import_module(f"linkwork.{place}")
            for name, found in inspect.getmembers(module, inspect.isclass):
                if issubclass(found, Exception) and found is not linkwork.errors.LinkworkError:
                    self.assertEqual(found.__bases__, (linkwork.errors.LinkworkError,), name)


if __name__ == "__main__":
    unittest.main()
