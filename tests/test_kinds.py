"""Compacting, faults and changed logs: [20], [21], [22], and [90] as far as it speaks of compacting."""

import itertools
import random
import unittest

from lastofkind.errors import NoLog, NoSystem
from lastofkind.kinds import changed, compacted, fault, shows_changed, shows_fault
from lastofkind.systems import outcome

from tests.helpers import (
    BETWEEN, CELLS, FIXED_SYSTEMS, GREATER, HIDDEN, LONELY, NO_SYSTEMS, ONE_STATE, ONWARD, ROUND, SLOW, SWITCH, TURNS,
    all_logs, any_values, is_plainly_changed, many_systems, plain_compacted, plain_faults, random_log, random_systems,
    renumbered, spoiled, tiny_systems, walked,
)

RIGHT = (CELLS, SWITCH, HIDDEN, ONE_STATE, LONELY, GREATER, ROUND)
WRONG = (TURNS, ONWARD, BETWEEN, SLOW)
# From the start 4 on, the kinds are not right at the states 3 and 4, and hold at the reachable state 2.
LATE = (5, 4, ((0, 0, 2, 3, 3), (1, 1, 2, 2, 4)), (0, 0))


class Compacted(unittest.TestCase):
    def test_examples(self):
        self.assertEqual(compacted(CELLS, (1, 2, 0, 3)), (0, 3))
        self.assertEqual(compacted(CELLS, (0, 1, 0)), (0,))
        self.assertEqual(compacted(CELLS, (3, 3, 3, 1)), (3, 1))
        self.assertEqual(compacted(TURNS, (0, 0, 0, 1, 0)), (0,))

    def test_the_empty_log(self):
        for system in many_systems():
            self.assertEqual(compacted(system, ()), ())

    def test_entries_without_a_kind_stay(self):
        self.assertEqual(compacted(SWITCH, (5, 5, 0, 5, 1, 5)), (5, 5, 5, 1, 5))
        self.assertEqual(compacted(LONELY, (0, 4, 0, 4)), (0, 4, 0, 4))
        self.assertEqual(compacted(LONELY, (0, 1, 0, 3, 5, 2, 5, 0)), (0, 0, 3, 2, 5, 0))

    def test_a_later_entry_of_the_kind_may_be_another_operation(self):
        self.assertEqual(compacted(LONELY, (1, 3)), (3,))
        self.assertEqual(compacted(LONELY, (1, 2)), (1, 2))
        self.assertEqual(compacted(SWITCH, (0, 3, 1, 4, 2)), (4, 2))

    def test_the_same_operation_again(self):
        self.assertEqual(compacted(LONELY, (1, 1)), (1,))
        self.assertEqual(compacted(ONE_STATE, (0,) * 40), (0,))

    def test_long_logs(self):
        self.assertEqual(compacted(CELLS, (0, 1, 2, 3) * 10), (1, 3))
        self.assertEqual(compacted(CELLS, (0, 1, 2, 3) * 300), (1, 3))
        self.assertEqual(compacted(SWITCH, (5,) * 41), (5,) * 41)

    def test_it_leaves_out_what_the_words_say(self):
        dice = random.Random(20)
        for system in many_systems():
            logs = list(all_logs(system, 2)) + [random_log(dice, system) for _ in range(10)]
            for log in logs:
                self.assertEqual(compacted(system, log), plain_compacted(system, log))

    def test_twice_is_the_same_as_once(self):
        dice = random.Random(21)
        for system in many_systems():
            for log in [random_log(dice, system) for _ in range(5)]:
                once = compacted(system, log)
                self.assertEqual(compacted(system, once), once)

    def test_right_kinds_keep_the_outcome(self):
        dice = random.Random(22)
        for system in [one for one in many_systems() if fault(one) is None]:
            for log in [random_log(dice, system) for _ in range(5)]:
                self.assertEqual(outcome(system, compacted(system, log)), outcome(system, log))

    def test_wrong_inputs(self):
        for thing in NO_SYSTEMS:
            with self.assertRaises(NoSystem):
                compacted(thing, ())
        for wrong in ((4,), (-1,), [0], [], None, 0, "", "0", (0, True), (False,), (None,), ((0,),), {}):
            with self.assertRaises(NoLog):
                compacted(CELLS, wrong)


class Fault(unittest.TestCase):
    def test_right_kinds(self):
        for system in RIGHT:
            self.assertIsNone(fault(system))

    def test_one_operation_twice(self):
        self.assertEqual(fault(ONWARD), (0, (0, 0)))
        self.assertEqual(fault(TURNS), (0, (0, 0)))
        self.assertEqual(fault((2, 0, ((0, 0), (1, 0)), (None, 3))), (0, (1, 1)))

    def test_two_operations(self):
        # Each one twice is as once, but the first one's work is seen behind the second one.
        self.assertEqual(fault((4, 0, ((1, 1, 3, 3), (2, 3, 2, 3)), (0, 0))), (0, (0, 1)))
        self.assertEqual(fault((3, 0, ((0, 0, 2), (0, 2, 2)), (0, 0))), None)
        self.assertEqual(fault((3, 1, ((0, 0, 2), (0, 2, 2)), (0, 0))), (1, (0, 1)))
        self.assertEqual(fault((3, 1, ((0, 0, 2), (0, 2, 2)), (0, 1))), (1, (0, 1, 0)))

    def test_another_operation_between(self):
        self.assertEqual(fault(BETWEEN), (0, (0, 1, 0)))
        self.assertEqual(fault(BETWEEN[:3] + ((0, 9),)), (0, (0, 1, 0)))
        self.assertEqual(fault(BETWEEN[:3] + ((9, 0),)), (0, (0, 1, 0)))
        self.assertEqual(fault(BETWEEN[:3] + ((None, 9),)), None)
        self.assertEqual(fault(BETWEEN[:3] + ((None, None),)), None)

    def test_an_operation_between_of_the_same_kind_is_not_asked_for(self):
        # (0, 1, 0) is of neither form here, so the log (0, 1) is the first one.
        self.assertEqual(fault(BETWEEN[:3] + ((0, 0),)), (0, (0, 1)))

    def test_operations_without_a_kind_are_of_no_kind(self):
        self.assertIsNone(fault(TURNS[:3] + ((None, None),)))
        self.assertEqual(fault(TURNS[:3] + ((0, None),)), (0, (0, 0)))
        self.assertIsNone(fault(TURNS[:3] + ((None, 0),)))

    def test_shorter_logs_come_first(self):
        # At state 0 the logs (0, 1, 0) and (1, 1) both tell.
        system = (4, 0, ((1, 1, 3, 3), (2, 1, 3, 3)), (5, 6))
        self.assertIn((0, (0, 1, 0)), plain_faults(system))
        self.assertEqual(fault(system), (0, (1, 1)))

    def test_the_least_reachable_state(self):
        # At state 4, the start, already (0, 1) tells.
        self.assertEqual(fault(LATE), (3, (1, 0)))
        # At state 1 only (1, 1) tells, at state 2 already (0, 0).
        system = (4, 2, ((0, 1, 3, 0), (0, 3, 1, 0)), (0, 1))
        self.assertEqual(plain_faults(system)[0], (1, (1, 1)))
        self.assertIn((2, (0, 0)), plain_faults(system))
        self.assertEqual(fault(system), (1, (1, 1)))

    def test_states_that_are_not_reachable_do_not_count(self):
        self.assertIsNone(fault(HIDDEN))
        self.assertEqual(fault((4, 0) + HIDDEN[2:]), (0, (0, 0)))

    def test_one_state_has_no_fault(self):
        for kinds in itertools.product((None, 0, 1), repeat=3):
            self.assertIsNone(fault((1, 0, ((0,), (0,), (0,)), kinds)))

    def test_it_is_the_first_of_all_faults(self):
        for system in many_systems() + [LATE]:
            found = plain_faults(system)
            self.assertEqual(fault(system), found[0] if found else None)

    def test_none_exactly_if_compacting_changes_no_outcome(self):
        for system in list(tiny_systems()) + [TURNS, ONWARD, BETWEEN, HIDDEN, ONE_STATE]:
            right = not any(is_plainly_changed(system, log) for log in all_logs(system, 6))
            self.assertEqual(fault(system) is None, right)

    def test_no_system(self):
        for thing in NO_SYSTEMS:
            with self.assertRaises(NoSystem):
                fault(thing)


class ShowsFault(unittest.TestCase):
    def accepts(self, system, thing):
        self.assertIs(shows_fault(system, thing), True, (system, thing))

    def refuses(self, system, thing):
        self.assertIs(shows_fault(system, thing), False, (system, thing))

    def test_none_for_right_kinds_alone(self):
        for system in RIGHT:
            self.accepts(system, None)
        for system in WRONG:
            self.refuses(system, None)

    def test_what_fault_returns(self):
        for system in many_systems():
            self.accepts(system, fault(system))

    def test_any_fault_and_nothing_else(self):
        for system in [LATE] + list(FIXED_SYSTEMS) + list(random_systems(72, seed=21)):
            faults = dict.fromkeys(plain_faults(system), True)
            for state in range(system[0] + 1):
                for log in all_logs(system, 3):
                    self.assertIs(shows_fault(system, (state, log)), (state, log) in faults)

    def test_other_states_and_logs_than_the_first(self):
        self.accepts(TURNS, (0, (0, 0)))
        self.accepts(TURNS, (1, (0, 0)))
        self.accepts(TURNS, (2, (0, 0)))
        self.accepts(BETWEEN, (0, (0, 1, 0)))
        self.refuses(TURNS, (0, (0, 1)))
        self.refuses(TURNS, (3, (0, 0)))
        self.refuses(TURNS, (-1, (0, 0)))

    def test_states_that_are_not_reachable(self):
        self.refuses(HIDDEN, (0, (0, 0)))
        self.refuses(HIDDEN, (1, (0, 0)))
        self.accepts((4, 0) + HIDDEN[2:], (1, (0, 0)))

    def test_logs_of_other_forms(self):
        onward = (5, 0, ((1, 2, 3, 4, 4),), (0,))
        unlike = ((1, 2, 2), (1, 2, 2))
        for system, log in (
            (onward, (0,)), (onward, (0, 0, 0)), (onward, (0, 0, 0, 0)), (BETWEEN, (0, 1)), (BETWEEN, (0, 1, 1, 0)),
            (TURNS, (0, 0, 0)), ((3, 0, unlike, (0, 1)), (0, 1)), ((3, 0, unlike, (None, None)), (0, 1)),
            ((3, 0, unlike, (None, None)), (0, 0)), ((3, 0, unlike, (0, None)), (1, 0)),
        ):
            # It leads elsewhere without its first entry, and only its form is wrong.
            self.assertNotEqual(walked(system, 0, log), walked(system, 0, log[1:]))
            self.refuses(system, (0, log))
        self.refuses(onward, (0, ()))

    def test_values_that_are_no_pair_of_a_state_and_a_log(self):
        for thing in (
            [0, (0, 0)], (0, [0, 0]), (False, (0, 0)), (True, (0, 0)), (0, (False, 0)), (0, (0, False)),
            (0, (0, 0), 0), (0,), ((0, 0),), (0, 0, 0), (0, 0), (0, 2), (0, (0, 2)), (0, (0, -1)), (0, (2, 0)),
            ((0, 0), 0), (None, (0, 0)), (0, None), ("0", (0, 0)), (0, "00"), ((0, (0, 0)),), {0: (0, 0)},
            (9999999999999, (0, 0)), ((0,), (0, 0)), ([], (0, 0)), ({}, (0, 0)), (0, ((0, 0), 0)),
            (0, (0, 0) * 20), (0, (0,) * 2000), (0, (0, 0, True)), (0, (0, 1, False)), False, True, 0, "", (), [],
        ):
            self.refuses(TURNS, thing)

    def test_spoiled_faults(self):
        for system in WRONG + (LATE,):
            for thing in spoiled(fault(system)):
                # By their reprs, since a bool is equal to an integer for Python.
                right = repr(thing) in [repr(one) for one in plain_faults(system)]
                self.assertIs(shows_fault(system, thing), right, thing)

    def test_any_value(self):
        for system in FIXED_SYSTEMS:
            for thing in any_values():
                self.assertIs(shows_fault(system, thing), thing is None and system in RIGHT, thing)
                self.refuses(system, (thing, (0, 0, 0, 0)))
                self.refuses(system, (0, (0, thing, 0, 0)))
                self.refuses(system, (-1, thing))

    def test_no_system(self):
        for thing in NO_SYSTEMS:
            for value in (None, (0, (0, 0)), thing):
                with self.assertRaises(NoSystem):
                    shows_fault(thing, value)


class Changed(unittest.TestCase):
    def test_right_kinds(self):
        for system in RIGHT:
            self.assertIsNone(changed(system))

    def test_a_log_that_compacting_changes(self):
        for system in WRONG + (LATE,):
            self.assertIsInstance(changed(system), tuple)
            self.assertTrue(is_plainly_changed(system, changed(system)))

    def test_running_it_and_the_compacted_one_shows_it(self):
        for system in many_systems():
            log = changed(system)
            self.assertEqual(log is None, not plain_faults(system))
            if log is not None:
                self.assertIs(type(log), tuple)
                self.assertNotEqual(outcome(system, log), outcome(system, compacted(system, log)))
                self.assertTrue(is_plainly_changed(system, log))

    def test_a_fault_behind_a_path_that_compacting_changes_too(self):
        # On the way to a fault there are entries of the same kinds: in all these systems each state has its own way.
        for cycle in itertools.permutations(range(5)):
            operation = tuple((cycle[(cycle.index(state) + 1) % 5] for state in range(5)))
            for other in ((0, 0, 0, 0, 0), (1, 0, 2, 3, 4), operation):
                system = (5, 4, (operation, other), (0, 0))
                self.assertTrue(is_plainly_changed(system, changed(system)))

    def test_no_system(self):
        for thing in NO_SYSTEMS:
            with self.assertRaises(NoSystem):
                changed(thing)


class ShowsChanged(unittest.TestCase):
    def accepts(self, system, thing):
        self.assertIs(shows_changed(system, thing), True, (system, thing))

    def refuses(self, system, thing):
        self.assertIs(shows_changed(system, thing), False, (system, thing))

    def test_none_for_right_kinds_alone(self):
        for system in RIGHT:
            self.accepts(system, None)
        for system in WRONG:
            self.refuses(system, None)

    def test_what_changed_returns(self):
        for system in many_systems():
            self.accepts(system, changed(system))

    def test_such_logs_and_no_others(self):
        for system in [LATE] + list(FIXED_SYSTEMS) + list(random_systems(72, seed=22)):
            for log in all_logs(system, 3):
                self.assertIs(shows_changed(system, log), is_plainly_changed(system, log))

    def test_however_long(self):
        self.accepts(TURNS, (0,) * 41)
        self.refuses(TURNS, (0,) * 40)
        self.accepts(TURNS, (1,) * 1000 + (0,) * 998)
        self.refuses(TURNS, (0,) * 998 + (1,) * 1000)
        self.refuses(CELLS, (0, 1, 2, 3) * 500)

    def test_it_is_the_outcome_that_counts(self):
        # From state 1, not from the start, the logs lead to different states.
        system = (3, 0, ((2, 0, 2), (1, 1, 1)), (0, 1))
        self.assertNotEqual(walked(system, 1, (0, 0)), walked(system, 1, (0,)))
        self.refuses(system, (0, 0))
        self.accepts(system, (1, 0, 0))

    def test_values_that_are_no_logs(self):
        for thing in (
            [0, 0], (False, 0), (0, False), (False, False), (0, True, 0), (2, 0, 0), (0, 0, -1), "00", ((0, 0),),
            (0, (0, 0)), {0: 0}, (None, 0, 0), (0, "0"), ([0], [0]), 0, True, False, "", [], {}, (0, 0, None),
            (0, 0, 9999999999999), (0,) * 1000 + (2,), (0,) * 998 + (False,),
        ):
            self.refuses(ONWARD, thing)
            self.refuses(TURNS, thing)

    def test_any_value(self):
        for system in FIXED_SYSTEMS:
            for thing in any_values():
                self.assertIs(shows_changed(system, thing), thing is None and system in RIGHT, thing)
                self.refuses(system, (0, thing, -1))

    def test_no_system(self):
        for thing in NO_SYSTEMS:
            for value in (None, (0, 0), thing):
                with self.assertRaises(NoSystem):
                    shows_changed(thing, value)


class Renumbered(unittest.TestCase):
    """[90]: states and operations may be numbered otherwise, and so may the kinds."""

    def test_compacting_faults_and_changed_logs(self):
        dice = random.Random(91)
        for system in many_systems():
            names = dice.sample(range(system[0]), system[0])
            places = dice.sample(range(len(system[2])), len(system[2]))
            other = renumbered(system, names, places)
            self.assertEqual(fault(other) is None, fault(system) is None)
            self.assertEqual(changed(other) is None, changed(system) is None)
            for state, log in plain_faults(system)[:5]:
                renamed = tuple([places[entry] for entry in log])
                self.assertIs(shows_fault(other, (names[state], renamed)), True)
            for log in [random_log(dice, system, 12) for _ in range(5)]:
                renamed = tuple([places[entry] for entry in log])
                kept = tuple([places[entry] for entry in compacted(system, log)])
                self.assertEqual(compacted(other, renamed), kept)
                self.assertIs(shows_changed(other, renamed), shows_changed(system, log))

    def test_other_numbers_of_kinds(self):
        for system in many_systems():
            kinds = tuple([None if kind is None else 9 - kind for kind in system[3]])
            other = system[:3] + (kinds,)
            self.assertEqual(fault(other), fault(system))
            for log in all_logs(system, 2):
                self.assertEqual(compacted(other, log), compacted(system, log))


if __name__ == "__main__":
    unittest.main()
