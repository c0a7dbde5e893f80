"""Any order: [50]."""

import inspect
import itertools
import random
import unittest

from lastofkind.errors import NoLog, NoSystem, TooMany
from lastofkind.orders import by_set, order_fault, orders
from lastofkind.systems import outcome

from tests.helpers import (
    BETWEEN, CELLS, FIXED_SYSTEMS, GREATER, HIDDEN, LONELY, NO_LOGS, NO_SYSTEMS, ONE_STATE, ONWARD, ROUND, SLOW,
    SWITCH, TURNS, all_logs, all_systems, many_systems, plain_reachable, random_log, random_systems, renumbered,
    slow_systems, spoiled, tiny_systems, walked, with_hidden_state,
)

# Operations 0 and 1 each set a cell of their own, operation 2 does nothing.
PARTS = (6, 0, ((1, 1, 3, 3, 5, 5), (2, 3, 2, 3, 4, 5), (0, 1, 2, 3, 4, 5)), (None, None, None))


def plain_order_faults(system):
    """All tuples of a reachable state and two operations whose order matters there, in order."""
    return sorted(
        (state, f, g) for state in plain_reachable(system) for f, g in itertools.combinations(range(len(system[2])), 2)
        if walked(system, state, (f, g)) != walked(system, state, (g, f))
    )


def plain_orders(log):
    return sorted(set(itertools.permutations(log)))


def some_systems():
    return list(tiny_systems()) + list(FIXED_SYSTEMS) + [PARTS] + list(random_systems(72, seed=50))


def outcomes_by(system, most, name):
    """The outcomes of all logs of few entries, for each name that a function gives to logs."""
    found = {}
    for log in all_logs(system, most):
        found.setdefault(name(log), set()).add(outcome(system, log))
    return found


class OrderFault(unittest.TestCase):
    def test_examples(self):
        self.assertEqual(order_fault(TURNS), (0, 0, 1))
        self.assertEqual(order_fault(CELLS), (0, 0, 1))
        self.assertEqual(order_fault(HIDDEN), (2, 0, 1))
        self.assertEqual(order_fault(SLOW), (0, 0, 1))

    def test_the_order_never_matters(self):
        for system in (ROUND, GREATER, LONELY, PARTS, (2, 0, ((1, 0),) * 6, (0,) * 6)):
            self.assertIsNone(order_fault(system))

    def test_one_operation_alone(self):
        self.assertIsNone(order_fault(ONE_STATE))
        self.assertIsNone(order_fault(ONWARD))
        for only in itertools.product(range(3), repeat=3):
            self.assertIsNone(order_fault((3, 0, (only,), (None,))))

    def test_the_first_operations(self):
        # Only the last two operations do not go together.
        system = (2, 0, ((0, 1), (0, 1), (0, 0), (1, 1)), (None,) * 4)
        self.assertEqual(order_fault(system), (0, 2, 3))
        self.assertEqual(order_fault((4, 0, ((0, 0, 2, 2), (0, 1, 2, 3), (1, 1, 3, 3)), (None,) * 3)), (0, 0, 2))
        # Operations 0 and 3 do not go together, and operations 1 and 2 do not either.
        system = (4, 0, ((1, 0, 3, 2), (0, 1, 0, 1), (2, 3, 2, 3), (1, 1, 3, 3)), (None,) * 4)
        self.assertEqual(plain_order_faults(system)[:2], [(0, 0, 3), (0, 1, 2)])
        self.assertEqual(order_fault(system), (0, 0, 3))

    def test_the_least_reachable_state(self):
        # Only at the start 2 the order matters.
        self.assertEqual(order_fault((3, 2, ((0, 0, 1), (0, 1, 1)), (None, None))), (2, 0, 1))
        late = (4, 3, ((0, 1, 2, 1), (0, 1, 2, 2), (0, 0, 2, 3)), (None,) * 3)
        self.assertEqual(plain_order_faults(late), [(3, 0, 1), (3, 0, 2)])
        self.assertEqual(order_fault(late), (3, 0, 1))
        # A lesser state comes first, even with greater operations.
        both = (5, 4, ((0, 1, 2, 3, 1), (0, 1, 2, 3, 2), (1, 1, 2, 3, 4), (3, 1, 2, 3, 0)), (None,) * 4)
        self.assertEqual(order_fault(both), (0, 2, 3))
        self.assertIn((4, 0, 1), plain_order_faults(both))

    def test_states_that_are_not_reachable_do_not_count(self):
        system = ((0, 2, 1), (0, 0, 1))
        self.assertIsNone(order_fault((3, 0, system, (None, None))))
        self.assertEqual(order_fault((3, 1, system, (None, None))), (1, 0, 1))

    def test_it_is_the_first_of_all_tuples(self):
        for system in all_systems():
            faults = plain_order_faults(system)
            self.assertEqual(order_fault(system), faults[0] if faults else None)

    def test_none_exactly_if_the_outcome_never_depends_on_the_order(self):
        for system in some_systems():
            most = 7 if len(system[2]) < 3 else 5 if len(system[2]) < 5 else 4
            found = outcomes_by(system, most, lambda log: tuple(sorted(log)))
            if order_fault(system) is None:
                self.assertTrue(all(len(ends) == 1 for ends in found.values()))
            elif most > 4 or system[0] < 4:
                self.assertTrue(any(len(ends) > 1 for ends in found.values()))

    def test_a_tuple_of_integers(self):
        for system in many_systems():
            found = order_fault(system)
            if found is not None:
                self.assertIs(type(found), tuple)
                self.assertEqual([type(part) for part in found], [int, int, int])

    def test_no_system(self):
        for thing in NO_SYSTEMS:
            with self.assertRaises(NoSystem):
                order_fault(thing)


class Orders(unittest.TestCase):
    def test_examples(self):
        self.assertEqual(list(orders(TURNS, (1, 0, 0))), [(0, 0, 1), (0, 1, 0), (1, 0, 0)])
        self.assertEqual(
            list(orders(CELLS, (3, 0, 2))), [(0, 2, 3), (0, 3, 2), (2, 0, 3), (2, 3, 0), (3, 0, 2), (3, 2, 0)]
        )

    def test_the_empty_log_and_one_entry(self):
        self.assertEqual(list(orders(TURNS, ())), [()])
        self.assertEqual(list(orders(TURNS, (1,))), [(1,)])

    def test_equal_entries(self):
        for many in range(7):
            self.assertEqual(list(orders(SWITCH, (4,) * many)), [(4,) * many])
        self.assertEqual(list(orders(TURNS, (0, 1, 0, 1))), plain_orders((0, 0, 1, 1)))
        self.assertEqual(len(list(orders(TURNS, (0, 1, 0, 1, 0, 1)))), 20)

    def test_six_entries(self):
        found = list(orders(SWITCH, (5, 4, 3, 2, 1, 0)))
        self.assertEqual(len(found), 720)
        self.assertEqual(found, list(itertools.permutations(range(6))))
        self.assertEqual(list(orders(SWITCH, (5, 4, 3, 3, 1, 5))), plain_orders((5, 4, 3, 3, 1, 5)))

    def test_all_different_ones_ascending(self):
        for log in all_logs(CELLS, 4):
            self.assertEqual(list(orders(CELLS, log)), plain_orders(log))
        dice = random.Random(51)
        for system in many_systems():
            log = random_log(dice, system, 6)
            self.assertEqual(list(orders(system, log)), plain_orders(log))

    def test_they_are_tuples(self):
        for log in ((), (0,), (3, 1, 1, 2)):
            for found in orders(CELLS, log):
                self.assertIs(type(found), tuple)

    def test_it_is_a_generator(self):
        self.assertTrue(inspect.isgeneratorfunction(orders))
        found = orders(CELLS, (1, 0))
        self.assertEqual([next(found), next(found), next(found, None)], [(0, 1), (1, 0), None])

    def test_two_at_once(self):
        log = (2, 1, 0, 1)
        one, other = orders(CELLS, log), orders(CELLS, log)
        self.assertEqual(next(one), (0, 1, 1, 2))
        self.assertEqual(list(other), plain_orders(log))
        self.assertEqual(list(one), plain_orders(log)[1:])
        self.assertEqual(log, (2, 1, 0, 1))

    def test_the_outcome_is_that_of_each_order_if_it_never_matters(self):
        for system in (ROUND, GREATER, PARTS, LONELY):
            for log in list(all_logs(system, 4))[:100]:
                self.assertEqual({outcome(system, order) for order in orders(system, log)}, {outcome(system, log)})

    def test_too_many_entries(self):
        for many in (7, 8, 40, 41, 2000):
            for log in ((0,) * many, (0, 1) * (many // 2) + (0,) * (many % 2)):
                with self.assertRaises(TooMany) as caught:
                    next(orders(TURNS, log))
                self.assertIs(type(caught.exception), TooMany)
                self.assertEqual((caught.exception.amount, caught.exception.limit), (many, 6))

    def test_wrong_inputs(self):
        for thing in NO_SYSTEMS:
            for log in ((), (0,) * 7, None):
                with self.assertRaises(NoSystem):
                    next(orders(thing, log))
        for wrong in NO_LOGS + ((0,) * 7 + (4,), [0] * 7, (0,) * 6 + (False,), "0" * 7, ((0,),) * 7):
            with self.assertRaises(NoLog):
                next(orders(CELLS, wrong))
        for wrong in spoiled((0, 1, 0)):
            if repr(wrong) not in [repr(log) for log in all_logs(TURNS, 6)]:
                with self.assertRaises(NoLog):
                    next(orders(TURNS, wrong))


class BySet(unittest.TestCase):
    def test_examples(self):
        for system in (GREATER, LONELY, ONE_STATE, PARTS, (2, 0, ((1, 1),), (None,))):
            self.assertIs(by_set(system), True)
        for system in (CELLS, TURNS, SWITCH, HIDDEN, BETWEEN, SLOW):
            self.assertIs(by_set(system), False)

    def test_the_order_never_matters_but_twice_is_not_as_once(self):
        for system in (ROUND, ONWARD, (2, 0, ((1, 0),), (0,)), (2, 0, ((0, 1), (1, 0)), (None, None))):
            self.assertIsNone(order_fault(system))
            self.assertIs(by_set(system), False)

    def test_twice_is_as_once_but_the_order_matters(self):
        self.assertIs(by_set((2, 0, ((0, 0), (1, 1)), (None, None))), False)

    def test_only_the_last_operation_is_not_the_same_twice(self):
        for amount in range(1, 7):
            idle = ((0, 1, 2),) * (amount - 1)
            self.assertIs(by_set((3, 0, idle + ((1, 2, 2),), (None,) * amount)), False)
            self.assertIs(by_set((3, 0, idle + ((2, 2, 2),), (None,) * amount)), True)

    def test_states_that_are_not_reachable_do_not_count(self):
        self.assertIs(by_set((3, 0, ((0, 2, 1), (0, 0, 1)), (None, None))), True)
        self.assertIs(by_set((3, 0, ((0, 2, 1),), (None,))), True)
        self.assertIs(by_set((3, 1, ((0, 2, 1),), (None,))), False)
        self.assertIs(by_set((3, 0, ((1, 1, 0),), (None,))), True)

    def test_states_that_are_reachable_but_not_the_start_count(self):
        # At the start (0, 0) comes to the same as (0,), behind operation 1 it does not.
        self.assertIs(by_set((4, 0, ((0, 2, 3, 3), (1, 1, 2, 3)), (None, None))), False)

    def test_plain_bools(self):
        for system in many_systems():
            self.assertIs(type(by_set(system)), bool)

    def test_it_is_what_the_words_say(self):
        for system in all_systems():
            once = all(
                operation[operation[state]] == operation[state]
                for operation in system[2] for state in plain_reachable(system)
            )
            self.assertIs(by_set(system), not plain_order_faults(system) and once)

    def test_exactly_if_logs_with_the_same_set_have_the_same_outcome(self):
        for system in some_systems():
            most = 7 if len(system[2]) < 3 else 5 if len(system[2]) < 5 else 4
            found = outcomes_by(system, most, lambda log: tuple(sorted(set(log))))
            if by_set(system):
                self.assertTrue(all(len(ends) == 1 for ends in found.values()))
            elif most > 4 or system[0] < 4:
                self.assertTrue(any(len(ends) > 1 for ends in found.values()))

    def test_no_system(self):
        for thing in NO_SYSTEMS:
            with self.assertRaises(NoSystem):
                by_set(thing)


class WhatHolds(unittest.TestCase):
    """[90]: states and operations may be numbered otherwise; and states that are not reachable never matter."""

    def test_states_and_operations_numbered_otherwise(self):
        dice = random.Random(52)
        for system in all_systems():
            places = dice.sample(range(len(system[2])), len(system[2]))
            other = renumbered(system, dice.sample(range(system[0]), system[0]), places)
            self.assertEqual(order_fault(other) is None, order_fault(system) is None)
            self.assertIs(by_set(other), by_set(system))

    def test_one_more_state_that_is_not_reachable(self):
        dice = random.Random(53)
        for system in [one for one in all_systems() if one[0] < 6]:
            other, names = with_hidden_state(dice, system)
            found = order_fault(system)
            self.assertEqual(order_fault(other), found if found is None else (names[found[0]],) + found[1:])
            self.assertIs(by_set(other), by_set(system))

    def test_the_kinds_do_not_matter(self):
        for system in FIXED_SYSTEMS + tuple(slow_systems(25, seed=54)):
            other = system[:3] + ((9,) * len(system[2]),)
            self.assertEqual(order_fault(other), order_fault(system))
            self.assertIs(by_set(other), by_set(system))
            self.assertEqual(list(orders(other, (0, 0))), [(0, 0)])


if __name__ == "__main__":
    unittest.main()
