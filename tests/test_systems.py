"""Systems, states and logs: [10] and [11]."""

import itertools
import random
import unittest

from lastofkind.errors import NoLog, NoState, NoSystem
from lastofkind.systems import apart, is_system, outcome, path, reachable, run

from tests.helpers import (
    CELLS, FIXED_SYSTEMS, HIDDEN, ONE_STATE, ONWARD, TURNS, all_logs, any_values,
    many_systems, plain_reachable, random_log, random_systems, renumbered, spoiled,
    walked,
)


class IsSystem(unittest.TestCase):
    def accepts(self, thing):
        self.assertIs(is_system(thing), True, thing)

    def refuses(self, thing):
        self.assertIs(is_system(thing), False, thing)

    def test_right_systems(self):
        for system in many_systems():
            self.accepts(system)

    def test_the_number_of_states(self):
        for states in range(1, 7):
            self.accepts((states, states - 1, (tuple(range(states)),), (None,)))
        self.refuses((7, 0, (tuple(range(7)),), (None,)))
        self.refuses((0, 0, ((),), (None,)))
        self.refuses((-1, 0, ((),), (None,)))
        self.refuses((2, 0, ((0, 0, 0),), (None,)))
        self.refuses((2, 0, ((0,),), (None,)))

    def test_the_start(self):
        for start in range(3):
            self.accepts((3, start, ((0, 0, 0),), (0,)))
        self.refuses((3, 3, ((0, 0, 0),), (0,)))
        self.refuses((3, -1, ((0, 0, 0),), (0,)))
        self.refuses((3, None, ((0, 0, 0),), (0,)))

    def test_the_number_of_operations(self):
        for many in range(1, 7):
            self.accepts((2, 0, ((1, 0),) * many, (0,) * many))
        self.refuses((2, 0, (), ()))
        self.refuses((2, 0, ((1, 0),) * 7, (0,) * 7))

    def test_the_states_to_which_operations_lead(self):
        self.accepts((3, 0, ((2, 2, 2),), (0,)))
        for place, wrong in itertools.product(range(3), (3, -1, None, "0", False, (0,), 9999999999999)):
            moves = [0, 1, 2]
            moves[place] = wrong
            self.refuses((3, 0, (tuple(moves),), (0,)))
            self.refuses((3, 0, ((0, 0, 0), tuple(moves)), (0, 0)))

    def test_the_kinds(self):
        for kind in (None,) + tuple(range(10)):
            self.accepts((1, 0, ((0,),), (kind,)))
            self.accepts((1, 0, ((0,), (0,)), (3, kind)))
        for wrong in (-1, 10, "0", True, False, (0,), [], {}, 9999999999999):
            self.refuses((1, 0, ((0,),), (wrong,)))
            self.refuses((1, 0, ((0,), (0,)), (3, wrong)))
        self.refuses((1, 0, ((0,),), ()))
        self.refuses((1, 0, ((0,),), (0, 0)))
        self.refuses((1, 0, ((0,), (0,)), (0,)))
        self.refuses((1, 0, ((0,),), None))

    def test_bools_are_no_integers(self):
        self.refuses((True, 0, ((0,),), (0,)))
        self.refuses((1, False, ((0,),), (0,)))
        self.refuses((1, 0, ((False,),), (0,)))
        self.refuses((1, 0, ((0,),), (False,)))
        self.refuses((2, True, ((0, 0),), (None,)))
        self.refuses((2, 1, ((0, True),), (None,)))
        self.refuses((2, 1, ((0, 1),), (True,)))

    def test_lists_are_no_tuples(self):
        self.refuses([1, 0, ((0,),), (0,)])
        self.refuses((1, 0, [(0,)], (0,)))
        self.refuses((1, 0, ([0],), (0,)))
        self.refuses((1, 0, ((0,),), [0]))

    def test_parts_missing_or_doubled(self):
        for system in (CELLS, TURNS, ONE_STATE):
            self.refuses(system[:3])
            self.refuses(system[1:])
            self.refuses(system + (None,))
            self.refuses(system + system)
            self.refuses((system,))

    def test_spoiled_systems(self):
        for system in FIXED_SYSTEMS:
            for thing in spoiled(system):
                self.assertIs(is_system(thing), False, thing)

    def test_any_value(self):
        for thing in any_values():
            self.refuses(thing)
            self.refuses((4, 0, thing, (0, 0, 1, 1)))
            self.refuses((4, 0, (thing,) + CELLS[2][1:], (0, 0, 1, 1)))
            self.refuses((4, 0, CELLS[2], thing))

    def test_any_value_in_the_place_of_an_integer(self):
        for thing in any_values():
            number = thing if isinstance(thing, int) and not isinstance(thing, bool) else -1
            self.assertIs(is_system((thing, 0, CELLS[2], CELLS[3])), number == 4, thing)
            self.assertIs(is_system((4, thing, CELLS[2], CELLS[3])), 0 <= number <= 3, thing)
            self.assertIs(is_system((4, 0, ((0, thing, 0, 0),), (0,))), 0 <= number <= 3, thing)
            self.assertIs(is_system((4, 0, CELLS[2], (0, 0, thing, 1))), thing is None or 0 <= number <= 9, thing)


class Run(unittest.TestCase):
    def test_examples(self):
        self.assertEqual(run(CELLS, 3, (1, 2, 0, 3)), 1)
        self.assertEqual(run(CELLS, 3, (2,)), 2)
        self.assertEqual(run(CELLS, 2, (3, 0)), 1)
        self.assertEqual(run(TURNS, 1, (0, 0)), 0)
        self.assertEqual(run(TURNS, 1, (0, 0, 1, 0)), 1)
        # In each step the state is looked up in the operation, not the operation in the state.
        self.assertEqual(run(ONWARD, 1, (0,)), 2)

    def test_an_empty_log_leads_nowhere(self):
        for system in many_systems():
            for state in range(system[0]):
                self.assertEqual(run(system, state, ()), state)

    def test_entries_are_done_one_after_another(self):
        for system in many_systems():
            for state in range(system[0]):
                for log in all_logs(system, 2):
                    self.assertEqual(run(system, state, log), walked(system, state, log))

    def test_states_that_are_not_reachable_are_states(self):
        self.assertEqual(run(HIDDEN, 0, (0,)), 1)
        self.assertEqual(run(HIDDEN, 1, (0, 1)), 0)

    def test_long_logs(self):
        self.assertEqual(run(TURNS, 1, (0,) * 40), 2)
        self.assertEqual(run(TURNS, 1, (0,) * 41), 0)
        self.assertEqual(run(TURNS, 1, (0,) * 1999), 2)

    def test_no_system(self):
        with self.assertRaises(NoSystem):
            run((4, 0, CELLS[2], (0, 0, 1)), 0, ())

    def test_no_state(self):
        for wrong in (4, -1, None, True, False, "0", (0,), [], {}, CELLS, 9999999999999):
            with self.assertRaises(NoState):
                run(CELLS, wrong, (0,))
        with self.assertRaises(NoState):
            run(TURNS, 3, ())

    def test_no_log(self):
        for wrong in ((4,), (-1,), [0], [], None, 0, "", "0", (0, True), (False,), (None,), ((0,),), {}, {0: 0}):
            with self.assertRaises(NoLog):
                run(CELLS, 0, wrong)
        with self.assertRaises(NoLog):
            run(TURNS, 0, (0, 1, 2))


class Outcome(unittest.TestCase):
    def test_examples(self):
        self.assertEqual(outcome(CELLS, (1, 2, 0, 3)), 1)
        self.assertEqual(outcome(CELLS, (1, 3)), 3)
        self.assertEqual(outcome(TURNS, (0, 0)), 2)
        self.assertEqual(outcome(ONE_STATE, (0,) * 40), 0)

    def test_it_is_run_from_the_start(self):
        dice = random.Random(1)
        for system in many_systems():
            self.assertEqual(outcome(system, ()), system[1])
            for log in [random_log(dice, system) for _ in range(5)]:
                self.assertEqual(outcome(system, log), walked(system, system[1], log))
                self.assertEqual(outcome(system, log), run(system, system[1], log))

    def test_forty_entries_and_more(self):
        self.assertEqual(outcome(TURNS, (0,) * 40), 1)
        self.assertEqual(outcome(TURNS, (1,) + (0,) * 100), 1)

    def test_wrong_inputs(self):
        with self.assertRaises(NoSystem):
            outcome(list(CELLS), ())
        with self.assertRaises(NoLog):
            outcome(CELLS, (4,))
        with self.assertRaises(NoLog):
            outcome(CELLS, [1])


class Reachable(unittest.TestCase):
    def test_examples(self):
        self.assertEqual(reachable(CELLS), (0, 1, 2, 3))
        self.assertEqual(reachable(HIDDEN), (2, 3))
        self.assertEqual(reachable(ONE_STATE), (0,))
        self.assertEqual(reachable((6, 5, ((0, 0, 0, 0, 0, 0),), (None,))), (0, 5))
        self.assertEqual(reachable((6, 3, ((5, 2, 1, 0, 0, 4),), (None,))), (0, 3, 4, 5))
        self.assertEqual(reachable((6, 0, ((1, 2, 3, 4, 5, 5),), (None,))), (0, 1, 2, 3, 4, 5))

    def test_the_start_is_reachable(self):
        self.assertEqual(reachable((3, 1, ((0, 1, 2),), (0,))), (1,))
        self.assertEqual(reachable((3, 2, ((0, 0, 1),), (0,))), (0, 1, 2))

    def test_all_states_to_which_some_log_leads(self):
        for system in many_systems():
            self.assertEqual(reachable(system), tuple(plain_reachable(system)))

    def test_no_system(self):
        with self.assertRaises(NoSystem):
            reachable(CELLS[2])


class Path(unittest.TestCase):
    def test_examples(self):
        self.assertEqual([path(CELLS, state) for state in range(4)], [(), (3,), (1,), (1, 3)])
        self.assertEqual([path(TURNS, state) for state in range(3)], [(), (0,), (0, 0)])

    def test_the_empty_log_leads_to_the_start(self):
        for system in many_systems():
            self.assertEqual(path(system, system[1]), ())

    def test_the_first_of_several_with_as_many_entries(self):
        self.assertEqual(path((2, 0, ((0, 1), (1, 1), (1, 1)), (None,) * 3), 1), (1,))
        # By its last entry (2, 0) would be the first one, as tuples (1, 2) is.
        branches = (4, 0, ((0, 0, 3, 0), (1, 0, 0, 0), (2, 3, 0, 0)), (None,) * 3)
        self.assertEqual(path(branches, 3), (1, 2))

    def test_shorter_ones_come_first(self):
        self.assertEqual(path((3, 0, ((1, 2, 2), (2, 2, 2)), (0, 0)), 2), (1,))

    def test_it_is_the_first_log_in_order(self):
        for system in [one for one in many_systems() if len(one[2]) ** one[0] <= 3200]:
            first = {}
            for log in all_logs(system, system[0] - 1):
                first.setdefault(walked(system, system[1], log), log)
            for state, log in first.items():
                self.assertEqual(path(system, state), log)

    def test_it_leads_there(self):
        for system in many_systems():
            for state in reachable(system):
                self.assertEqual(outcome(system, path(system, state)), state)

    def test_no_system(self):
        with self.assertRaises(NoSystem):
            path((3, 0, ((1, 2, 3),), (0,)), 0)

    def test_a_state_that_is_not_reachable(self):
        for system in many_systems():
            for state in range(-1, 8):
                if state not in reachable(system):
                    with self.assertRaises(NoState):
                        path(system, state)

    def test_what_is_not_a_state(self):
        for wrong in (4, -1, None, True, False, "0", (0,), [], {}, [0], CELLS, -9999999999999):
            with self.assertRaises(NoState):
                path(CELLS, wrong)


class Apart(unittest.TestCase):
    def test_examples(self):
        self.assertEqual(apart(TURNS, (0,), ()), 0)
        self.assertEqual(apart(TURNS, (0, 0), (1,)), 0)
        self.assertEqual(apart(TURNS, (0,), (1,)), 0)
        self.assertEqual(apart(TURNS, (0,), (0, 0, 0, 0)), None)
        self.assertEqual(apart(CELLS, (0,), ()), 2)
        self.assertEqual(apart(CELLS, (3,), (0, 3)), 2)
        self.assertEqual(apart(CELLS, (0, 2), (2, 0)), None)

    def test_equal_logs_come_to_the_same(self):
        for system in many_systems():
            for log in ((), (0,), (0,) * 40):
                self.assertIsNone(apart(system, log, log))

    def test_state_0_is_told_from_none(self):
        self.assertIs(type(apart(TURNS, (0,), ())), int)
        self.assertIsNone(apart(ONE_STATE, (0,), ()))

    def test_states_that_are_not_reachable_do_not_count(self):
        self.assertIsNone(apart(HIDDEN, (0,), (0, 0)))
        self.assertEqual(apart(HIDDEN, (0,), (1,)), 2)
        self.assertEqual(apart(HIDDEN, (0,), ()), 3)

    def test_the_least_reachable_state(self):
        for system in list(FIXED_SYSTEMS) + list(random_systems(72, seed=3)):
            logs = list(all_logs(system, 2))[:20]
            for one, other in itertools.product(logs, repeat=2):
                states = [
                    state for state in plain_reachable(system)
                    if walked(system, state, one) != walked(system, state, other)
                ]
                self.assertEqual(apart(system, one, other), states[0] if states else None)

    def test_long_logs(self):
        self.assertIsNone(apart(TURNS, (0,) * 40, (0,)))
        self.assertEqual(apart(TURNS, (0,) * 40, ()), 0)
        self.assertIsNone(apart(TURNS, (0,) * 1000, (0,)))

    def test_wrong_inputs(self):
        with self.assertRaises(NoSystem):
            apart(None, (), ())
        for wrong in ((4,), [0], None, (True,), "0", ((0,),)):
            with self.assertRaises(NoLog):
                apart(CELLS, wrong, ())
            with self.assertRaises(NoLog):
                apart(CELLS, (), wrong)
            with self.assertRaises(NoLog):
                apart(CELLS, wrong, wrong)


class Renumbered(unittest.TestCase):
    """[90]: states and operations may be numbered otherwise."""

    def test_outcomes_and_reachable_states(self):
        dice = random.Random(90)
        for system in many_systems():
            names = dice.sample(range(system[0]), system[0])
            places = dice.sample(range(len(system[2])), len(system[2]))
            other = renumbered(system, names, places)
            self.assertTrue(is_system(other))
            self.assertEqual(reachable(other), tuple(sorted([names[state] for state in reachable(system)])))
            for log in [random_log(dice, system, 8) for _ in range(5)]:
                renamed = tuple([places[entry] for entry in log])
                self.assertEqual(outcome(other, renamed), names[outcome(system, log)])
                self.assertEqual(apart(other, renamed, ()) is None, apart(system, log, ()) is None)


if __name__ == "__main__":
    unittest.main()
