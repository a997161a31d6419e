"""Point 63: the faults of lists of instants."""

import random
import unittest

from building import shape, var
from linkwork.beginning import base
from linkwork.checking import faults
from linkwork.derivatives import reduced, unknowns
from linkwork.errors import LinkworkError, Singular, TooLarge
from linkwork.events import fire, run, triggered
from linkwork.expressions import evaluate, expression_text
from linkwork.ratios import Ratio, is_at_most
from linkwork.steps import step
from running import models, next_time
from solving import Unchanged, built, key, ratios

ONE = Ratio(1)


def plan(text):
    start, end, length, *method = text.split()
    return (*ratios(f"{start} {end} {length}"), method[0] if method else "backward")


def copied(instants):
    return [(count, dict(environment)) for count, environment in instants]


def text_of(fault):
    return " ".join(expression_text(part) if isinstance(part, tuple) else str(part) for part in fault)


class FaultTest(Unchanged, unittest.TestCase):
    # Rises to 3, is reset, and counts; the input is 2.
    BALL = built("state x = 1!, state y, discrete n, discrete? b = true, parameter p = 1, parameter? q = true, input u",
                 {"e1": "@x' = @u", "e2": "@y = add(@x,@p)"}, {"i1": "@y = 2"},
                 {"w1": "atmost(3,@x): reset x := 0; n := add(@n,1)", "w2": "initial: b := false"})
    SIGNALS = {"u": ratios("2")}
    PLAN = plan("0 2 1/2")

    def made(self):
        return run(self.BALL, self.SIGNALS, self.PLAN)

    def faulty(self, instants, *expected):
        found = self.unchanged(faults, self.BALL, self.SIGNALS, self.PLAN, instants)
        self.assertEqual([text_of(fault) for fault in found], list(expected))

    def changed(self, at, text, value):
        instants = self.made()
        instants[at][1][key(text)] = value
        return instants

    def test_what_run_returns(self):
        instants = self.made()
        self.assertEqual([count for count, _ in instants], [0, 1, 0, 0, 1, 0, 0])
        self.faulty(instants)

    def test_an_empty_list(self):
        self.faulty([], "-1 end")
        self.refused(Singular, faults, built("state x"), {}, self.PLAN, [])
        self.refused(Singular, faults, built("state x"), {}, self.PLAN, [(0, {})])
        large = built("state x, state y, input u", ["@x'' = @y", "@x = @u'''"])
        self.refused(TooLarge, faults, large, {"u": []}, self.PLAN, [])
        many = built("state x, state y, state z", [
            "if(less(@x'''',0),@y,mul(2,@y)) = 1", "@y' = @z", "if(less(@x,1),1,2) = time"])
        self.refused(TooLarge, faults, many, {}, self.PLAN, [])
        bent = built("state x", ["mul(@x,@x) = 4"])
        self.assertEqual(self.unchanged(faults, bent, {}, self.PLAN, []), [(-1, "end")])
        self.assertEqual(self.unchanged(faults, built("state x, state y", ["mul(@x,@y) = 4", "@x' = 1"]), {}, self.PLAN,
                                        []), [(-1, "end")])

    def test_the_first_instant_alone(self):
        self.faulty(self.made()[:1], "0 end")
        over = built("")
        self.assertEqual(faults(over, {}, plan("0 0 1"), run(over, {}, plan("0 0 1"))[:1]), [(0, "end")])

    def test_the_end_is_missing(self):
        for many in range(1, 7):
            self.faulty(self.made()[:many], f"{many - 1} end")

    def test_instants_behind_the_end(self):
        instants = self.made()
        self.faulty([*instants, instants[-1]], "7 error")
        self.faulty([*instants, instants[-1], instants[-1]], "7 error", "8 error")
        self.faulty([*instants, instants[0]], "7 error", "7 end")

    def test_an_instant_left_out_or_put_in(self):
        instants = self.made()
        others = ("time", "@x", "pre@x", "@y", "pre@y")
        self.faulty(instants[:2] + instants[3:], *[f"2 next {text}" for text in others])
        self.faulty(instants[:3] + instants[2:], *[f"3 next {text}" for text in others])
        self.assertEqual(
            [text_of(fault) for fault in faults(self.BALL, self.SIGNALS, self.PLAN, instants[:4] + instants[5:])][-1],
            "4 count 0")
        found = self.unchanged(faults, self.BALL, self.SIGNALS, self.PLAN, instants[:1] + instants[2:])
        self.assertIn((1, "count", 0), found)
        self.assertIn((1, "next", key("time")), found)

    def test_each_key_of_the_first_instant(self):
        for text, value in (("time", Ratio(1, 2)), ("@p", Ratio(2)), ("@u''''", ONE), ("@n", ONE), ("pre@n", ONE),
                            ("@b", False), ("pre@b", False), ("pre@x", Ratio(7)), ("pre@y", ONE), ("@q", False)):
            found = faults(self.BALL, self.SIGNALS, self.PLAN, self.changed(0, text, value))
            self.assertEqual(found[0], (0, "given", key(text)))

    def test_the_kinds_of_the_first_instant_in_their_order(self):
        instants = self.made()
        first = dict(instants[0][1])
        first.update({key("time"): ONE, key("initial"): False, key("@u"): Ratio(3), key("pre@x"): Ratio(4),
                      key("@x"): Ratio(2), key("@b"): False, key("pre@b"): False})
        self.faulty([(5, first)], "0 given time", "0 given initial", "0 given @b", "0 given pre@b", "0 given @u",
                    "0 given pre@x", "0 count 5", "0 equation e1 0", "0 equation e2 0", "0 start x", "0 end")
        first[key("@y")] = Ratio(3)
        self.faulty([(0, first)], "0 given time", "0 given initial", "0 given @b", "0 given pre@b", "0 given @u",
                    "0 given pre@x", "0 equation e1 0", "0 initial i1", "0 start x", "0 end")

    def test_what_does_not_hold_at_the_first_instant(self):
        self.assertEqual(faults(self.BALL, self.SIGNALS, self.PLAN, self.changed(0, "@y", Ratio(5)))[:2],
                         [(0, "equation", "e2", 0), (0, "initial", "i1")])
        instants = self.changed(0, "@x", Ratio(5))
        instants[0][1][key("@y")] = Ratio(6)
        self.assertEqual(faults(self.BALL, self.SIGNALS, self.PLAN, instants)[:2],
                         [(0, "initial", "i1"), (0, "start", "x")])

    def test_what_cannot_be_evaluated_at_the_first_instant(self):
        system = built("state x, state y, discrete d = 1", {"b": "@x = div(1,@d)", "a": "@y = 2"},
                       {"k": "@x = @d", "i": "@x'' = if(same(@d,0),@y',0)", "j": "@y = 2"})
        first = {**base(system, {}, Ratio(0), True), var("x"): ONE, var("y"): Ratio(2), var("d"): Ratio(0)}
        self.assertEqual(self.unchanged(faults, system, {}, self.PLAN, [(0, first)]), [
            (0, "given", var("d")), (0, "equation", "b", 0), (0, "initial", "i"), (0, "initial", "k"), (0, "end")])

    def test_differentiated_equations(self):
        system = built("state x, state y", ["@x' = @y", "@x = mul(time,time)"])
        own = plan("1 2 1/2")
        instants = run(system, {}, own)
        self.assertEqual(faults(system, {}, own, instants), [])
        instants[0][1][var("x", 1)] = ONE
        self.assertEqual(faults(system, {}, own, instants), [(0, "equation", "e1", 0), (0, "equation", "e2", 1)])
        instants[0][1][var("y")] = ONE
        self.assertEqual(faults(system, {}, own, instants), [(0, "equation", "e2", 1), (1, "next", ("pre", "y"))])

    def test_keys_that_are_missing(self):
        instants = self.made()
        keys = ["time", "initial", "@b", "pre@b", "@n", "pre@n", "@p", "@q", "@u", "@u'", "@u''", "@u'''", "@u''''",
                "@x", "@x'", "pre@x", "@y", "pre@y"]
        self.assertEqual(len(instants[3][1]), len(keys))
        instants[3] = (9, {})
        # The instant 5 follows from the instant 4, whose conditions ask nothing of the instant 3.
        self.faulty(instants, *[f"3 missing {text}" for text in keys])
        for text in keys:
            instants = self.made()
            del instants[2][1][key(text)]
            self.faulty(instants, f"2 missing {text}", *(["4 error"] if text == "@x" else []))

    def test_values_of_the_wrong_kind(self):
        for at in range(7):
            for text, value in (("time", True), ("initial", ONE), ("@b", ONE), ("pre@b", ONE), ("@n", False),
                                ("pre@n", True), ("@p", True), ("@q", ONE), ("@u''", True), ("@x'", False),
                                ("pre@x", True)):
                found = faults(self.BALL, self.SIGNALS, self.PLAN, self.changed(at, text, value))
                self.assertEqual([fault for fault in found if fault[0] == at and fault[1] != "end"],
                                 [(at, "missing", key(text))])

    def test_a_key_that_is_missing_at_the_end(self):
        instants = self.made()
        del instants[6][1][key("pre@y")]
        self.faulty(instants, "6 missing pre@y", "6 end")
        instants = self.made()
        del instants[5][1][key("pre@y")]
        self.faulty(instants, "5 missing pre@y", "6 end")
        instants = self.made()
        del instants[0][1][key("pre@y")]
        self.faulty(instants, "0 missing pre@y")
        self.faulty(instants[:1], "0 missing pre@y", "0 end")

    def test_other_keys_do_not_matter(self):
        instants = self.made()
        for _, environment in instants:
            environment[var("x", 4)] = ONE
            environment[var("z")] = True
        self.faulty(instants)

    def test_later_instants(self):
        for text, value in (("time", Ratio(3, 4)), ("initial", True), ("@n", Ratio(4)), ("pre@n", Ratio(4)),
                            ("@b", True), ("pre@b", True), ("@p", Ratio(3)), ("@q", False), ("@u'", ONE), ("@x'", ONE),
                            ("pre@x", Ratio(9)), ("@y", ONE), ("pre@y", ONE)):
            found = faults(self.BALL, self.SIGNALS, self.PLAN, self.changed(2, text, value))
            self.assertEqual(found[0], (2, "next", key(text)), text)

    def test_several_faults_of_a_later_instant(self):
        instants = self.made()
        count, last = instants[6]
        last = {**last, key("pre@x"): Ratio(9), key("@x''"): Ratio(9), key("@u"): Ratio(9), key("@b"): True}
        instants[6] = (3, last)
        self.faulty(instants, "6 next @b", "6 next @u", "6 next pre@x", "6 count 3")
        last[key("time")] = Ratio(7, 4)
        self.faulty(instants, "6 next time", "6 next @b", "6 next @u", "6 next pre@x", "6 count 3", "6 end")
        last[key("time")] = Ratio(5)
        last[key("initial")] = True
        # It says that it is the first one, so that the second when is triggered there.
        self.faulty(instants, "6 next time", "6 next initial", "6 next @b", "6 next @u", "6 next pre@x", "6 count 3",
                    "6 end")

    def test_counts(self):
        for at in range(1, 7):
            instants = self.made()
            instants[at] = (7, instants[at][1])
            found = self.unchanged(faults, self.BALL, self.SIGNALS, self.PLAN, instants)
            self.assertEqual(found[0], (at, "count", 7))

    def test_the_second_instant_after_one_that_is_not_the_first(self):
        instants = self.changed(0, "initial", False)
        self.faulty(instants, "0 given initial", "1 error")
        self.faulty(instants[:1], "0 given initial", "0 end")
        self.faulty(instants[:2], "0 given initial", "1 error", "1 end")

    def test_an_instant_that_must_follow_but_cannot_be_made(self):
        system = built("state x = 1!", ["@x' = div(1,sub(1,time))"])
        own = plan("0 2 1/2")
        instants = run(system, {}, plan("0 1/2 1/2"))
        self.assertEqual(faults(system, {}, own, instants), [(2, "end")])
        instants.append((0, {**instants[-1][1], key("time"): ONE}))
        self.assertEqual(faults(system, {}, own, instants), [(3, "error"), (3, "end")])
        instants.append((0, {**instants[-1][1], key("time"): Ratio(3, 2)}))
        self.assertEqual(faults(system, {}, own, instants), [(3, "error"), (4, "error"), (4, "end")])
        bent = built("state x, state y", ["mul(@x,@x) = 0", "@y = @x"])
        first = (0, {**base(bent, {}, Ratio(0), True), var("x"): Ratio(0), var("y"): Ratio(0)})
        self.assertEqual(faults(bent, {}, own, [first, first]), [(1, "error"), (1, "end")])

    def test_a_condition_that_cannot_be_evaluated(self):
        system = built("discrete n", [], [], ["less(div(1,@n),0): n := 5"])
        own = plan("0 1 1")
        known = {**base(system, {}, Ratio(0), False), key("@n"): ONE}
        first = (0, {**known, key("initial"): True})
        self.assertEqual(faults(system, {}, own, [first, (1, known), (0, {**known, key("@n"): Ratio(0),
                                                                          key("time"): ONE})]),
                         [(0, "given", key("@n")), (1, "next", key("pre@n")), (2, "next", key("@n")),
                          (2, "next", key("pre@n")), (2, "end")])

    def test_the_instant_before_is_asked_only_if_a_condition_needs_it(self):
        instants = self.made()
        del instants[1][1][key("@x")]
        # At the instant 2 the condition is false, and the instant 1 is not asked.
        self.faulty(instants, "1 missing @x")
        instants = self.made()
        del instants[2][1][key("@x")]
        # At the instant 3 the condition is true: whether it was before cannot be told.
        self.faulty(instants, "2 missing @x", "4 error")
        instants = self.made()
        del instants[2][1][key("@n")]
        self.faulty(instants, "2 missing @n")

    def test_bounds_are_not_looked_at(self):
        system = built("state x", ["@x' = 1"])
        first = run(system, {}, plan("0 198 1"))
        own = plan("0 199 1")
        self.assertEqual(faults(system, {}, own, first), [(199, "end")])
        first.append((0, step(system, first[-1][1], {}, Ratio(199), "backward")))
        self.assertEqual(faults(system, {}, own, first), [])

    def test_the_words_of_point_63(self):
        source = random.Random(63)
        seen = {}
        for system, signals, own in models(630, 350):
            try:
                instants = run(system, signals, own)
            except LinkworkError:
                continue
            self.assertEqual(self.unchanged(faults, system, signals, own, instants), [])
            for _ in range(3):
                spoilt = self.spoilt(source, instants)
                expected = plain_faults(system, signals, own, spoilt)
                self.assertEqual(self.unchanged(faults, system, signals, own, spoilt), expected)
                for fault in expected:
                    seen[fault[1]] = seen.get(fault[1], 0) + 1
        self.assertEqual(sorted(seen), ["count", "end", "equation", "error", "given", "missing", "next", "start"])
        self.assertGreater(min(seen.values()), 3, seen)

    def spoilt(self, source, instants):
        found = copied(instants)
        for _ in range(source.randint(1, 3)):
            at = source.randrange(len(found))
            count, environment = found[at]
            name = source.choice(sorted(environment)) if environment else ("time",)
            kind = source.choice(("value", "value", "value", "kind", "missing", "count", "left out", "put in", "cut"))
            if kind in ("value", "kind"):
                value = environment.get(name)
                if isinstance(value, bool) == (kind == "value"):
                    environment[name] = not value if kind == "value" else source.random() < 0.5
                else:
                    environment[name] = Ratio(source.randint(-2, 2))
            elif kind == "missing":
                environment.pop(name, None)
            elif kind == "count":
                found[at] = (source.randint(0, 3), environment)
            elif kind == "left out" and len(found) > 1:
                del found[at]
            elif kind == "put in":
                found.insert(at, (count, dict(environment)))
            elif kind == "cut":
                del found[at + 1:]
        return found

    def test_results_share_nothing(self):
        instants = self.made()
        before = shape(instants)
        found = faults(self.BALL, self.SIGNALS, self.PLAN, instants[:3])
        found.clear()
        self.assertEqual((faults(self.BALL, self.SIGNALS, self.PLAN, instants[:3]), shape(instants)),
                         ([(2, "end")], before))


# The words of point 63, line by line.


def plain_faults(system, signals, own, instants):
    given = base(system, signals, own[0], True)
    complete = {**{name: Ratio(0) for name in unknowns(system)}, **given}
    complete = {name: complete[name] for name in sorted(complete, key=place)}
    found = []
    for at, (count, environment) in enumerate(instants):
        missing = missing_keys(complete, environment)
        found += [(at, "missing", name) for name in missing]
        if not missing and at == 0:
            found += first_faults(system, given, complete, count, environment)
        elif not missing and not missing_keys(complete, instants[at - 1][1]):
            found += later_faults(system, signals, own, instants, at, complete)
    last = len(instants) - 1
    unknown = any(missing_keys(complete, environment) for _, environment in instants[-2:])
    if unknown or last == 0 or not plainly_over(system, own, instants):
        found.append((last, "end"))
    return found


def place(name):
    if name[0] in ("time", "initial"):
        return (0, name[0] == "initial", "", 0)
    return (1, 0, name[1], 9 if name[0] == "pre" else name[2])


def missing_keys(complete, environment):
    return [name for name in complete
            if name not in environment or isinstance(environment[name], bool) != isinstance(complete[name], bool)]


def first_faults(system, given, complete, count, environment):
    def fails(left, right):
        try:
            return evaluate(left, environment) != evaluate(right, environment)
        except LinkworkError:
            return True

    found = [(0, "given", name) for name in complete if name in given and environment[name] != given[name]]
    found += [(0, "count", count)] if count != 0 else []
    found += [(0, "equation", name, times) for name, times, left, right in reduced(system) if fails(left, right)]
    found += [(0, "initial", name) for name in sorted(system.initials) if fails(*system.initials[name])]
    for name in sorted(system.variables):
        variable = system.variables[name]
        if variable.kind == "state" and variable.fixed and environment[var(name)] != variable.start:
            found.append((0, "start", name))
    return found


def later_faults(system, signals, own, instants, at, complete):
    count, environment = instants[at]
    before = instants[at - 1]
    try:
        if at == 1:
            if not before[1][("initial",)]:
                return [(at, "error")]
            follows = fire(system, before, triggered(system, None, before))
        else:
            names = triggered(system, instants[at - 2], before)
            if names:
                follows = fire(system, before, names)
            elif is_at_most(own[1], before[1][("time",)]):
                return [(at, "error")]
            else:
                time = next_time(system, own, before[1][("time",)])
                follows = (0, step(system, before[1], signals, time, own[3]))
    except LinkworkError:
        return [(at, "error")]
    found = [(at, "next", name) for name in complete if environment[name] != follows[1][name]]
    return found + ([(at, "count", count)] if count != follows[0] else [])


def plainly_over(system, own, instants):
    try:
        names = triggered(system, instants[-2], instants[-1])
    except LinkworkError:
        return False
    return not names and is_at_most(own[1], instants[-1][1][("time",)])


if __name__ == "__main__":
    unittest.main()
