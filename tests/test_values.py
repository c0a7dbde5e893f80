"""What holds for all functions, [2]: wrong values, the order of refusals, arguments and results."""

import itertools
import unittest

from lastofkind.covers import best_kinds, coverage, shows_uncovered, thinned, uncovered
from lastofkind.effects import Effect
from lastofkind.errors import (
    KindError, NoEffect, NoLog, NoMoves, NoNumber, NoOperation, NoState, NoSystem, NoText, TooMany,
)
from lastofkind.kinds import changed, compacted, fault, shows_changed, shows_fault
from lastofkind.orders import by_set, order_fault, orders
from lastofkind.repeats import firsts, repeat_fault, unsteady
from lastofkind.stores import Compact, Limited, LimitedThin, Store, Thin
from lastofkind.systems import apart, is_system, outcome, path, reachable, run
from lastofkind.texts import read_system, system_text

from tests.helpers import CELLS, FIXED_SYSTEMS, TURNS, any_values, is_below, spoiled


def all_orders(system, log):
    """What orders yields; a generator raises at the latest when its first result is asked for."""
    return list(orders(system, log))


# Each function with the exceptions for its arguments, in the order in which they are listed; None: it takes any value.
REFUSALS = (
    (is_system, (None,)),
    (run, (NoSystem, NoState, NoLog)),
    (outcome, (NoSystem, NoLog)),
    (reachable, (NoSystem,)),
    (path, (NoSystem, NoState)),
    (apart, (NoSystem, NoLog, NoLog)),
    (compacted, (NoSystem, NoLog)),
    (fault, (NoSystem,)),
    (shows_fault, (NoSystem, None)),
    (changed, (NoSystem,)),
    (shows_changed, (NoSystem, None)),
    (uncovered, (NoSystem, NoOperation, NoOperation)),
    (shows_uncovered, (NoSystem, NoOperation, NoOperation, None)),
    (coverage, (NoSystem,)),
    (best_kinds, (NoSystem,)),
    (thinned, (NoSystem, NoLog)),
    (unsteady, (NoSystem, NoOperation)),
    (repeat_fault, (NoSystem,)),
    (firsts, (NoSystem, NoLog)),
    (order_fault, (NoSystem,)),
    (all_orders, (NoSystem, NoLog)),
    (by_set, (NoSystem,)),
    (Effect, (NoSystem, NoMoves)),
    (Effect.of, (NoSystem, NoLog)),
    (Effect.joined, (NoEffect,)),
    (Store, (NoSystem,)),
    (Compact, (NoSystem,)),
    (Thin, (NoSystem,)),
    (Limited, (NoSystem, NoNumber)),
    (LimitedThin, (NoSystem, NoNumber)),
    (system_text, (NoSystem,)),
    (read_system, (NoText,)),
)


def is_right_log(thing):
    return type(thing) is tuple and all(is_below(part, 4) for part in thing)


def are_effects(thing):
    return type(thing) is tuple and thing and all(type(part) is Effect for part in thing)


def wrong_values(error):
    """Values for which this exception is raised beside the system CELLS."""
    if error is NoSystem:
        return any_values() + list(spoiled(CELLS))
    if error in (NoState, NoOperation):
        return [thing for thing in any_values() if not is_below(thing, 4)]
    if error is NoLog:
        return [thing for thing in any_values() + list(spoiled((1, 0, 3))) if not is_right_log(thing)]
    if error is NoMoves:
        values = any_values() + list(spoiled((3, 0, 2, 1)))
        return [thing for thing in values if not is_right_log(thing) or len(thing) != 4]
    if error is NoEffect:
        return [thing for thing in any_values() if not are_effects(thing)]
    if error is NoNumber:
        return [thing for thing in any_values() + [41, -1] if not is_below(thing, 41)]
    return any_values()


def right_values(system, log):
    """A right value beside this system, for each exception that a wrong one raises."""
    return {
        NoSystem: system, NoState: system[0] - 1, NoOperation: len(system[2]) - 1, NoLog: log, NoNumber: 40,
        NoMoves: reachable(system), NoEffect: (Effect.of(system, log), Effect.of(system, ())),
        NoText: system_text(system),
    }


def right_value(error):
    return right_values(CELLS, (1, 2, 0, 3)).get(error)


def attempt(function, arguments):
    """The result of a call, or the exception that it raised, as a text that tells bools from integers."""
    try:
        return repr(function(*arguments))
    except KindError as error:
        return type(error).__name__


class Refusals(unittest.TestCase):
    def check(self, function, errors, wrong):
        """Put wrong values for the arguments with these numbers, in different combinations."""
        rows = [wrong_values(errors[at]) for at in wrong]
        for turn in range(max(len(row) for row in rows)):
            arguments = [right_value(error) for error in errors]
            for at, row in zip(wrong, rows):
                arguments[at] = row[(turn * (at + 1) + at) % len(row)]
            with self.assertRaises(KindError) as caught:
                function(*arguments)
            self.assertIs(type(caught.exception), errors[wrong[0]], (function, arguments))

    def test_the_one_listed_first_is_raised(self):
        for function, errors in REFUSALS:
            refused = [at for at, error in enumerate(errors) if error is not None]
            for many in range(1, len(refused) + 1):
                for wrong in itertools.combinations(refused, many):
                    with self.subTest(function=function.__name__, wrong=wrong):
                        self.check(function, errors, wrong)

    def test_each_wrong_value_alone(self):
        for function, errors in REFUSALS:
            for at, error in enumerate(errors):
                for thing in wrong_values(error) if error is not None else []:
                    arguments = [right_value(other) for other in errors]
                    arguments[at] = thing
                    self.assertEqual(attempt(function, arguments), error.__name__, (function, thing))

    def test_no_system_beside_any_other_value(self):
        for function, errors in REFUSALS:
            if errors[0] is not NoSystem:
                continue
            for thing in any_values():
                arguments = [TURNS[2]] + [thing] * (len(errors) - 1)
                self.assertEqual(attempt(function, arguments), "NoSystem", (function, thing))

    def test_a_log_with_too_many_entries_is_refused_last(self):
        for thing in wrong_values(NoSystem):
            self.assertEqual(attempt(all_orders, [thing, (0,) * 7]), "NoSystem", thing)
        for thing in wrong_values(NoOperation):
            self.assertEqual(attempt(all_orders, [CELLS, (0,) * 7 + (thing,)]), "NoLog", thing)
        with self.assertRaises(TooMany) as caught:
            all_orders(CELLS, (0,) * 7)
        self.assertIs(type(caught.exception), TooMany)

    def test_right_values_are_not_refused(self):
        for function, errors in REFUSALS:
            function(*[right_value(error) for error in errors])


class Judged(unittest.TestCase):
    def test_any_value_is_answered_by_a_plain_bool(self):
        for thing in any_values() + list(spoiled((0, (0, 0)))) + list(spoiled(CELLS)):
            self.assertIs(type(is_system(thing)), bool)
            for system in FIXED_SYSTEMS:
                self.assertIs(type(shows_fault(system, thing)), bool)
                self.assertIs(type(shows_changed(system, thing)), bool)
                self.assertIs(type(shows_uncovered(system, 0, 0, thing)), bool)

    def test_values_that_are_right_in_some_part(self):
        for thing in any_values():
            for value in ((0, thing), (thing, (0, 0)), (0, (0, thing)), (0, (thing, 0)), (0, 0, thing), [0, thing]):
                self.assertIs(type(shows_fault(TURNS, value)), bool)
                self.assertIs(type(shows_changed(TURNS, value)), bool)
                self.assertIs(type(shows_uncovered(TURNS, 0, 0, value)), bool)
                self.assertIs(is_system(value), False)


class ArgumentsAndResults(unittest.TestCase):
    def calls(self):
        for function, errors in REFUSALS:
            yield function, [right_value(error) for error in errors]
            for system in FIXED_SYSTEMS:
                for log in ((0,) * 40, (0,) * 6):
                    values = right_values(system, log)
                    yield function, [values.get(error) for error in errors]
            for thing in any_values():
                yield function, [thing] * len(errors)
                yield function, [CELLS] + [thing] * (len(errors) - 1)
                yield function, [TURNS] + [(0, thing)] * (len(errors) - 1)

    def test_arguments_are_as_they_were(self):
        for function, arguments in self.calls():
            before = repr(arguments)
            attempt(function, arguments)
            self.assertEqual(repr(arguments), before)

    def test_a_second_call_returns_an_equal_result(self):
        for function, arguments in self.calls():
            first = attempt(function, arguments)
            self.assertEqual(attempt(function, arguments), first)

    def test_equal_results_behind_other_calls(self):
        calls = list(self.calls())
        first = [attempt(function, arguments) for function, arguments in calls]
        again = [attempt(function, arguments) for function, arguments in reversed(calls)]
        self.assertEqual(again[::-1], first)

    def test_results_may_be_passed_back(self):
        log = changed(TURNS) * 30
        self.assertEqual(compacted(TURNS, compacted(TURNS, log)), (0,))
        self.assertIs(shows_fault(TURNS, fault(TURNS)), True)
        self.assertIs(shows_changed(TURNS, changed(TURNS)), True)
        self.assertEqual(run(TURNS, run(TURNS, 0, path(TURNS, 2)), ()), 2)
        self.assertIs(shows_uncovered(TURNS, 0, 0, uncovered(TURNS, 0, 0)), True)
        self.assertIsNone(fault(TURNS[:3] + (best_kinds(TURNS),)))
        self.assertEqual(thinned(TURNS, thinned(TURNS, log) * 20), log * 20)
        self.assertEqual(firsts(TURNS, firsts(TURNS, log) * 600), (0,))
        self.assertEqual([firsts(TURNS, order) for order in orders(TURNS, (1, 0, 0))], [(0, 1), (0, 1), (1, 0)])

    def test_kinds_of_results(self):
        for system in FIXED_SYSTEMS:
            self.assertIs(type(reachable(system)), tuple)
            self.assertIs(type(path(system, system[1])), tuple)
            self.assertIs(type(compacted(system, (0, 0))), tuple)
            self.assertIs(type(run(system, 0, (0,))), int)
            self.assertIs(type(outcome(system, (0,))), int)
            self.assertIs(type(coverage(system)), tuple)
            self.assertIs(type(best_kinds(system)), tuple)
            self.assertIs(type(thinned(system, (0, 0))), tuple)
            self.assertIs(type(firsts(system, (0, 0))), tuple)
            self.assertIs(type(by_set(system)), bool)
            for found in (fault(system), changed(system), uncovered(system, 0, 0), unsteady(system, 0)):
                self.assertIn(type(found), (tuple, type(None)))
            for found in (repeat_fault(system), order_fault(system)):
                self.assertIn(type(found), (tuple, type(None)))
            self.assertIs(type(Effect.of(system, (0, 0)).moves), tuple)
            self.assertIs(type(Store(system).entries), tuple)
            self.assertIs(type(system_text(system)), str)
            self.assertIs(type(read_system(system_text(system))), tuple)


if __name__ == "__main__":
    unittest.main()
