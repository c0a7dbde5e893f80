"""Delivering again: [40], [41], and [90] as far as it speaks of leaving out what stands earlier."""

import random
import unittest

from lastofkind.errors import NoLog, NoOperation, NoSystem
from lastofkind.repeats import firsts, repeat_fault, unsteady
from lastofkind.systems import outcome

from tests.helpers import (
    BETWEEN, CELLS, FIXED_SYSTEMS, GREATER, HIDDEN, LONELY, NO_LOGS, NO_OPERATIONS, NO_SYSTEMS, ONE_STATE, ONWARD,
    ROUND, SLOW, SWITCH, TURNS, all_logs, all_systems, come_to_the_same, first_maps, many_systems, plain_firsts,
    plain_reachable, random_log, random_systems, renumbered, slow_systems, tiny_systems, walked, with_hidden_state,
)

# The first one of two operations leads to its own state, and nothing leads away from there: the order matters.
FIRST_WINS = (3, 0, ((1, 1, 2), (2, 1, 2)), (None, None))


def plain_unsteady(system, operation, maps):
    """The first log between, of all of those, that tells that the operation may not be delivered again, or None."""
    moves = system[2][operation]
    for between, log in maps.items():
        for state in plain_reachable(system):
            if moves[between[moves[state]]] != between[moves[state]]:
                return log
    return None


def plain_repeat_faults(system):
    """All faults, each reachable state with each log that does not hold there, in order."""
    entries = range(len(system[2]))
    logs = [(a, a) for a in entries] + sorted((a, b, a) for a in entries for b in entries if a != b)
    return [
        (state, log) for state in plain_reachable(system) for log in logs
        if walked(system, state, log) != walked(system, state, log[:-1])
    ]


class Unsteady(unittest.TestCase):
    def test_examples(self):
        self.assertEqual([unsteady(TURNS, entry) for entry in range(2)], [(), (0,)])
        self.assertEqual([unsteady(CELLS, entry) for entry in range(4)], [(1,), (0,), (3,), (2,)])
        self.assertEqual([unsteady(SLOW, entry) for entry in range(3)], [(), (0,), (0,)])

    def test_one_state_and_one_operation(self):
        self.assertIsNone(unsteady(ONE_STATE, 0))
        self.assertEqual([unsteady(LONELY, entry) for entry in range(6)], [None] * 6)
        self.assertEqual(unsteady(ONWARD, 0), ())
        self.assertIsNone(unsteady((2, 0, ((1, 1),), (None,)), 0))
        self.assertEqual(unsteady((2, 0, ((1, 0),), (None,)), 0), ())

    def test_one_operation_may_although_another_one_may_not(self):
        self.assertIsNone(unsteady(BETWEEN, 0))
        self.assertEqual(unsteady(BETWEEN, 1), (0,))
        self.assertEqual([unsteady(SWITCH, entry) for entry in range(6)], [(1,), (0,), (0,), (4,), (3,), None])
        self.assertEqual([unsteady((3, 0, (GREATER[2][1][:3], (1, 2, 2)), (0, 0)), at) for at in range(2)], [None, ()])

    def test_all_may(self):
        self.assertEqual([unsteady(GREATER, entry) for entry in range(6)], [None] * 6)
        self.assertEqual([unsteady(FIRST_WINS, entry) for entry in range(2)], [None] * 2)

    def test_the_first_log_of_those_with_as_many_entries(self):
        # Operations 1 and 2 both lead from state 1, to which operation 0 leads, to where it leads elsewhere.
        system = (3, 0, ((1, 1, 1), (0, 2, 2), (0, 0, 2)), (None,) * 3)
        self.assertEqual(unsteady(system, 0), (1,))
        self.assertEqual(unsteady((3, 0, (system[2][1], system[2][0], system[2][2]), (None,) * 3), 1), (0,))
        self.assertEqual(unsteady((3, 0, (system[2][1], system[2][2], system[2][0]), (None,) * 3), 2), (0,))
        # Operation 2 tells at state 0 already, operation 1 only at state 2.
        system = (5, 0, ((1, 1, 3, 3, 1), (2, 1, 2, 4, 4), (2, 0, 2, 3, 4)), (None,) * 3)
        self.assertEqual(unsteady(system, 0), (1,))

    def test_states_that_are_not_reachable_do_not_count(self):
        self.assertEqual([unsteady(HIDDEN, entry) for entry in range(2)], [(1,), (0,)])
        self.assertEqual([unsteady((4, 0) + HIDDEN[2:], entry) for entry in range(2)], [(), (0,)])
        self.assertIsNone(unsteady((3, 0, ((0, 2, 1), (0, 1, 1)), (None, None)), 0))
        self.assertEqual(unsteady((3, 1, ((0, 2, 1), (0, 1, 1)), (None, None)), 0), ())

    def test_states_that_are_reachable_but_not_the_start_count(self):
        self.assertEqual(unsteady((4, 0, ((0, 2, 3, 3), (1, 1, 2, 3)), (None, None)), 0), ())

    def test_it_is_the_first_of_all_logs_of_few_entries(self):
        for system in all_systems():
            maps = first_maps(system, 3 if len(system[2]) > 3 else 5)
            for operation in range(len(system[2])):
                self.assertEqual(unsteady(system, operation), plain_unsteady(system, operation, maps))

    def test_logs_one_after_another(self):
        for system in list(tiny_systems()) + [TURNS, BETWEEN, HIDDEN, ONWARD, FIRST_WINS]:
            for operation in range(len(system[2])):
                telling = [
                    log for log in all_logs(system, 4)
                    if not come_to_the_same(system, (operation,) + log + (operation,), (operation,) + log)
                ]
                self.assertEqual(unsteady(system, operation), telling[0] if telling else None)

    def test_none_if_no_log_is_changed_by_delivering_again(self):
        dice = random.Random(40)
        for system in all_systems():
            for operation in range(len(system[2])):
                if unsteady(system, operation) is None:
                    for log in [random_log(dice, system, 12) for _ in range(3)]:
                        before, between = log[:5], log[5:]
                        once = before + (operation,) + between
                        self.assertEqual(outcome(system, once + (operation,)), outcome(system, once))

    def test_wrong_inputs(self):
        for thing in NO_SYSTEMS:
            with self.assertRaises(NoSystem):
                unsteady(thing, 0)
        for wrong in NO_OPERATIONS:
            with self.assertRaises(NoOperation):
                unsteady(CELLS, wrong)
            with self.assertRaises(NoSystem):
                unsteady(CELLS[:3], wrong)
        # A state that is no operation.
        with self.assertRaises(NoOperation):
            unsteady(TURNS, 2)


class RepeatFault(unittest.TestCase):
    def test_examples(self):
        self.assertEqual(repeat_fault(TURNS), (0, (0, 0)))
        self.assertEqual(repeat_fault(CELLS), (0, (0, 1, 0)))
        self.assertEqual(repeat_fault(ONWARD), (0, (0, 0)))
        self.assertEqual(repeat_fault(BETWEEN), (0, (1, 0, 1)))

    def test_all_may_be_delivered_again(self):
        for system in (GREATER, FIRST_WINS, ONE_STATE, LONELY):
            self.assertIsNone(repeat_fault(system))
        self.assertIsNone(repeat_fault((2, 0, ((1, 1),), (None,))))
        self.assertIsNone(repeat_fault((2, 0, ((0, 1),) * 6, (0,) * 6)))

    def test_an_operation_twice_in_the_least_reachable_state(self):
        # At the start no log tells, and only operation 1 leads to state 1.
        self.assertEqual(repeat_fault((5, 0, ((3, 2, 4, 3, 4), (1, 1, 2, 3, 4)), (None, None))), (1, (0, 0)))
        # At the start 2 it tells, too, but state 1 is less.
        self.assertEqual(repeat_fault((4, 2, ((0, 3, 1, 0),), (None,))), (1, (0, 0)))
        self.assertEqual(repeat_fault((4, 2, ((0, 1, 1, 0), (1, 1, 3, 0)), (None,) * 2)), (2, (1, 1)))

    def test_an_operation_between_in_the_least_reachable_state(self):
        self.assertEqual(repeat_fault(HIDDEN), (2, (0, 1, 0)))
        # At the start 3 it tells, too, but state 1 is less.
        system = (4, 3, ((0, 1, 1, 3), (0, 2, 2, 2)), (None, None))
        self.assertEqual(repeat_fault(system), (1, (0, 1, 0)))
        self.assertIn((3, (0, 1, 0)), plain_repeat_faults(system))

    def test_shorter_logs_come_first(self):
        # At state 0 the logs (1, 1) and (0, 1, 0) both tell.
        system = (3, 0, ((0, 0, 0), (1, 2, 2)), (None, None))
        self.assertEqual(plain_repeat_faults(system)[:2], [(0, (1, 1)), (0, (0, 1, 0))])
        self.assertEqual(repeat_fault(system), (0, (1, 1)))

    def test_lesser_states_come_before_shorter_logs(self):
        system = (4, 0, ((0, 0, 2, 3), (1, 1, 3, 0), (0, 2, 2, 3)), (None,) * 3)
        self.assertEqual(plain_repeat_faults(system)[0], (0, (0, 1, 0)))
        self.assertIn((2, (1, 1)), plain_repeat_faults(system))
        self.assertEqual(repeat_fault(system), (0, (0, 1, 0)))

    def test_states_that_are_not_reachable_do_not_count(self):
        self.assertEqual(repeat_fault((4, 0) + HIDDEN[2:]), (0, (0, 0)))
        self.assertIsNone(repeat_fault((3, 0, ((0, 2, 1), (0, 1, 1)), (None, None))))
        self.assertEqual(repeat_fault((3, 1, ((0, 2, 1), (0, 1, 1)), (None, None))), (1, (0, 0)))

    def test_it_is_the_first_of_all_faults(self):
        for system in all_systems():
            faults = plain_repeat_faults(system)
            self.assertEqual(repeat_fault(system), faults[0] if faults else None)

    def test_none_exactly_if_each_operation_may_be_delivered_again(self):
        for system in all_systems():
            steady = all(unsteady(system, operation) is None for operation in range(len(system[2])))
            self.assertEqual(repeat_fault(system) is None, steady)

    def test_it_is_a_tuple_of_a_state_and_a_log(self):
        for system in many_systems():
            found = repeat_fault(system)
            if found is not None:
                self.assertIs(type(found), tuple)
                self.assertEqual([type(part) for part in found], [int, tuple])

    def test_no_system(self):
        for thing in NO_SYSTEMS:
            with self.assertRaises(NoSystem):
                repeat_fault(thing)


class Firsts(unittest.TestCase):
    def test_examples(self):
        self.assertEqual(firsts(CELLS, (1, 2, 0, 3)), (1, 2, 0, 3))
        self.assertEqual(firsts(CELLS, (3, 1, 3, 3, 0, 1)), (3, 1, 0))
        self.assertEqual(firsts(TURNS, (0, 0, 0)), (0,))
        self.assertEqual(firsts(TURNS, (1, 0, 1)), (1, 0))

    def test_the_empty_log_and_one_entry(self):
        for system in many_systems():
            self.assertEqual(firsts(system, ()), ())
            for entry in range(len(system[2])):
                self.assertEqual(firsts(system, (entry,)), (entry,))

    def test_forty_entries_and_more(self):
        self.assertEqual(firsts(SWITCH, (5, 3) * 20), (5, 3))
        self.assertEqual(firsts(SWITCH, (5,) * 39 + (0,)), (5, 0))
        self.assertEqual(firsts(ONE_STATE, (0,) * 40), (0,))
        self.assertEqual(firsts(CELLS, (2, 0, 3, 1) * 500), (2, 0, 3, 1))

    def test_it_does_not_matter_whether_they_may_be_delivered_again(self):
        self.assertEqual(firsts(ROUND, (0, 1, 0, 0)), (0, 1))
        self.assertEqual(firsts(ROUND[:3] + ((0, 0),), (0, 1, 0, 0)), (0, 1))

    def test_it_leaves_out_what_the_words_say(self):
        dice = random.Random(41)
        for system in all_systems():
            for log in [random_log(dice, system, most) for most in (40, 40, 6, 6)]:
                self.assertEqual(firsts(system, log), plain_firsts(log))
                self.assertIs(type(firsts(system, log)), tuple)

    def test_the_outcome_stays_if_all_may_be_delivered_again(self):
        dice = random.Random(42)
        for system in [one for one in all_systems() + [FIRST_WINS] if repeat_fault(one) is None]:
            for log in [random_log(dice, system, most) for most in (40, 40, 6, 6)]:
                self.assertEqual(outcome(system, firsts(system, log)), outcome(system, log))
                self.assertTrue(come_to_the_same(system, firsts(system, log), log))

    def test_some_outcome_changes_if_not_all_may(self):
        for system in list(tiny_systems()) + [TURNS, BETWEEN, ONWARD, HIDDEN]:
            changes = any(outcome(system, firsts(system, log)) != outcome(system, log) for log in all_logs(system, 7))
            self.assertEqual(changes, repeat_fault(system) is not None)

    def test_twice_is_the_same_as_once(self):
        dice = random.Random(43)
        for system in many_systems():
            for log in [random_log(dice, system) for _ in range(3)]:
                once = firsts(system, log)
                self.assertEqual(firsts(system, once), once)

    def test_wrong_inputs(self):
        for thing in NO_SYSTEMS:
            with self.assertRaises(NoSystem):
                firsts(thing, ())
        for wrong in NO_LOGS:
            with self.assertRaises(NoLog):
                firsts(CELLS, wrong)
            with self.assertRaises(NoSystem):
                firsts(CELLS[:3], wrong)


class WhatHolds(unittest.TestCase):
    """[90]: states and operations may be numbered otherwise; and states that are not reachable never matter."""

    def test_states_and_operations_numbered_otherwise(self):
        dice = random.Random(44)
        for system in all_systems():
            places = dice.sample(range(len(system[2])), len(system[2]))
            other = renumbered(system, dice.sample(range(system[0]), system[0]), places)
            self.assertEqual(repeat_fault(other) is None, repeat_fault(system) is None)
            for operation, place in enumerate(places):
                found, moved = unsteady(system, operation), unsteady(other, place)
                self.assertEqual(found is None, moved is None)
                if found is not None:
                    self.assertEqual(len(moved), len(found))
            for log in [random_log(dice, system, 12) for _ in range(3)]:
                kept = tuple([places[entry] for entry in firsts(system, log)])
                self.assertEqual(firsts(other, tuple([places[entry] for entry in log])), kept)

    def test_one_more_state_that_is_not_reachable(self):
        dice = random.Random(45)
        for system in [one for one in all_systems() if one[0] < 6]:
            other, names = with_hidden_state(dice, system)
            found = repeat_fault(system)
            self.assertEqual(repeat_fault(other), found if found is None else (names[found[0]], found[1]))
            for operation in range(len(system[2])):
                self.assertEqual(unsteady(other, operation), unsteady(system, operation))

    def test_the_kinds_do_not_matter(self):
        for system in FIXED_SYSTEMS + tuple(random_systems(36, seed=46)) + tuple(slow_systems(25, seed=47)):
            other = system[:3] + ((9,) * len(system[2]),)
            self.assertEqual(repeat_fault(other), repeat_fault(system))
            self.assertEqual(unsteady(other, 0), unsteady(system, 0))


if __name__ == "__main__":
    unittest.main()
