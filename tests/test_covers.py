"""Covering, the best kinds and thinning: [30], [31], [32], and [90] as far as it speaks of them."""

import itertools
import random
import unittest

from lastofkind.covers import best_kinds, coverage, shows_uncovered, thinned, uncovered
from lastofkind.errors import NoLog, NoOperation, NoSystem
from lastofkind.kinds import compacted, fault
from lastofkind.systems import outcome

from tests.helpers import (
    BETWEEN, CELLS, FIXED_SYSTEMS, GREATER, HIDDEN, LONELY, NO_LOGS, NO_OPERATIONS, NO_SYSTEMS, ONE_STATE, ONWARD,
    ROUND, SLOW, SWITCH, TURNS, all_logs, all_systems, any_values, come_to_the_same, first_maps, many_systems,
    plain_coverage, plain_reachable, plain_thinned, plain_uncovered, random_log, renumbered, slow_systems, spoiled,
    tiny_systems, with_hidden_state,
)

# Behind operation 1 the log (2,) tells at state 1, but the log (0,), the first one, only at state 2.
TWO_WAYS = (4, 3, ((1, 2, 3, 3), (0, 0, 0, 3), (3, 1, 0, 1)), (None, 1, None))
# Behind operation 2 the logs (0, 1) and (1, 0) tell, and none before them.
TWO_STEPS = (5, 4, ((3, 4, 1, 2, 4), (4, 0, 2, 1, 2), (4, 1, 2, 3, 4), (1, 4, 1, 1, 1)), (None,) * 4)


def pairs_of(system):
    return itertools.product(range(len(system[2])), repeat=2)


def is_within(part, whole):
    """Whether a log can be made of another one by leaving out entries."""
    rest = iter(whole)
    return all(entry in rest for entry in part)


class Uncovered(unittest.TestCase):
    def test_examples(self):
        self.assertIsNone(uncovered(TURNS, 0, 1))
        self.assertIsNone(uncovered(TURNS, 1, 1))
        self.assertEqual(uncovered(TURNS, 0, 0), ())
        self.assertEqual(uncovered(TURNS, 1, 0), ())
        for first, second in pairs_of(CELLS):
            self.assertEqual(uncovered(CELLS, first, second), None if CELLS[3][first] == CELLS[3][second] else ())

    def test_an_operation_that_does_nothing(self):
        for second in range(6):
            self.assertIsNone(uncovered(SWITCH, 5, second))
            self.assertEqual(uncovered(SWITCH, second, 5), None if second == 5 else ())

    def test_one_state_and_one_operation(self):
        self.assertIsNone(uncovered(ONE_STATE, 0, 0))
        for first, second in pairs_of(LONELY):
            self.assertIsNone(uncovered(LONELY, first, second))
        self.assertEqual(uncovered(ONWARD, 0, 0), ())
        self.assertIsNone(uncovered((2, 0, ((1, 1),), (None,)), 0, 0))
        self.assertEqual(uncovered((2, 0, ((1, 0),), (None,)), 0, 0), ())

    def test_an_operation_with_itself(self):
        self.assertIsNone(uncovered(GREATER, 3, 3))
        # Twice is as once here, but not if the other operation comes between.
        self.assertTrue(come_to_the_same(BETWEEN, (0, 0), (0,)))
        self.assertEqual(uncovered(BETWEEN, 0, 0), (1,))
        self.assertIsNone(uncovered(BETWEEN, 1, 1))

    def test_logs_between_with_as_many_entries_as_are_needed(self):
        # Operation 1 merges two states in a row, of which operation 2 tells the last one from all others.
        for states in range(3, 7):
            onward = tuple(range(1, states)) + (states - 1,)
            merging = (0, 0) + tuple(range(2, states))
            telling = (0,) * (states - 1) + (states - 1,)
            system = (states, 0, (onward, merging, telling), (None,) * 3)
            self.assertEqual(uncovered(system, 1, 2), (0,) * (states - 2))
        self.assertEqual(uncovered(SLOW, 1, 2), (0, 0, 0, 0))
        # The same with two operations that take turns in going on.
        odd, even = (1, 1, 3, 3, 5, 5), (0, 2, 2, 4, 4, 5)
        system = (6, 0, (odd, even, (0, 0, 2, 3, 4, 5), (0, 0, 0, 0, 0, 5)), (None,) * 4)
        self.assertEqual(uncovered(system, 2, 3), (1, 0, 1, 0))

    def test_the_first_log_of_those_with_as_many_entries(self):
        self.assertEqual(uncovered(TWO_WAYS, 1, 1), (0,))
        self.assertIs(shows_uncovered(TWO_WAYS, 1, 1, (2,)), True)
        self.assertEqual(uncovered(TWO_STEPS, 2, 3), (0, 1))
        self.assertIs(shows_uncovered(TWO_STEPS, 2, 3, (1, 0)), True)

    def test_states_that_are_not_reachable_do_not_count(self):
        for first, second in pairs_of(HIDDEN):
            self.assertIsNone(uncovered(HIDDEN, first, second))
        self.assertEqual(uncovered((4, 0) + HIDDEN[2:], 0, 0), ())
        self.assertEqual(uncovered((4, 1) + HIDDEN[2:], 0, 1), None)

    def test_states_that_are_reachable_but_not_the_start_count(self):
        # From the start 0 itself operation 0 changes nothing that operation 1 does not, from state 1 it does.
        system = (3, 0, ((0, 2, 2), (1, 1, 2)), (None, None))
        self.assertEqual(uncovered(system, 0, 1), ())

    def test_it_is_the_first_of_all_logs_of_few_entries(self):
        for system in all_systems():
            maps = first_maps(system, 4)
            for first, second in pairs_of(system):
                self.assertEqual(uncovered(system, first, second), plain_uncovered(system, first, second, maps))

    def test_more_than_four_entries_are_never_needed(self):
        for system in [one for one in all_systems() if len(one[2]) < 4] + [SLOW]:
            maps = first_maps(system, 6)
            for first, second in pairs_of(system):
                found = plain_uncovered(system, first, second, maps)
                self.assertLessEqual(len(found or ()), 4)
                self.assertEqual(uncovered(system, first, second), found)

    def test_logs_one_after_another(self):
        for system in list(tiny_systems()) + [TURNS, BETWEEN, HIDDEN, ONE_STATE, ONWARD, TWO_WAYS]:
            for first, second in pairs_of(system):
                telling = [
                    log for log in all_logs(system, 4)
                    if not come_to_the_same(system, (first,) + log + (second,), log + (second,))
                ]
                self.assertEqual(uncovered(system, first, second), telling[0] if telling else None)

    def test_wrong_inputs(self):
        for thing in NO_SYSTEMS:
            with self.assertRaises(NoSystem):
                uncovered(thing, 0, 0)
        for wrong in NO_OPERATIONS:
            for first, second in ((wrong, 0), (0, wrong), (wrong, wrong)):
                with self.assertRaises(NoOperation):
                    uncovered(CELLS, first, second)
        # A position that another system has, and a state that is no operation.
        with self.assertRaises(NoOperation):
            uncovered(TURNS, 2, 0)
        with self.assertRaises(NoOperation):
            uncovered(TURNS, 0, 2)


class ShowsUncovered(unittest.TestCase):
    def accepts(self, system, first, second, thing):
        self.assertIs(shows_uncovered(system, first, second, thing), True, (system, first, second, thing))

    def refuses(self, system, first, second, thing):
        self.assertIs(shows_uncovered(system, first, second, thing), False, (system, first, second, thing))

    def test_what_uncovered_returns(self):
        for system in all_systems():
            for first, second in pairs_of(system):
                self.accepts(system, first, second, uncovered(system, first, second))

    def test_none_if_it_covers_alone(self):
        self.accepts(TURNS, 0, 1, None)
        self.refuses(TURNS, 1, 0, None)
        for system in FIXED_SYSTEMS:
            for first, second in pairs_of(system):
                self.assertIs(
                    shows_uncovered(system, first, second, None), uncovered(system, first, second) is None
                )

    def test_any_log_that_tells_and_no_others(self):
        for system in list(FIXED_SYSTEMS) + [TWO_WAYS] + list(slow_systems(60, seed=31)):
            for first, second in pairs_of(system):
                for log in all_logs(system, 2):
                    same = come_to_the_same(system, (first,) + log + (second,), log + (second,))
                    self.assertIs(shows_uncovered(system, first, second, log), not same)

    def test_other_logs_than_the_first(self):
        self.accepts(TURNS, 0, 0, (0,))
        self.accepts(TURNS, 0, 0, (0, 0))
        self.refuses(TURNS, 0, 0, (1,))
        self.refuses(TURNS, 0, 0, (0, 1, 0))
        self.accepts(SLOW, 1, 2, (0, 0, 0, 0))
        self.accepts(SLOW, 1, 2, (0, 1, 0, 0, 0))
        self.refuses(SLOW, 1, 2, (0, 0, 0))
        self.refuses(SLOW, 1, 2, (1, 0, 0, 0, 0))
        self.refuses(SLOW, 1, 2, (0, 0, 0, 0, 0))

    def test_states_that_are_not_reachable_do_not_count(self):
        for log in all_logs(HIDDEN, 3):
            self.refuses(HIDDEN, 0, 0, log)
        self.accepts((4, 0) + HIDDEN[2:], 0, 0, ())

    def test_however_long(self):
        self.accepts(TURNS, 0, 0, (0,) * 41)
        self.accepts(TURNS, 0, 0, (0,) * 2000)
        self.refuses(TURNS, 0, 0, (0,) * 1999 + (1,))
        self.refuses(TURNS, 0, 0, (1,) + (0,) * 1999)
        self.refuses(TURNS, 0, 1, (0,) * 2000)
        self.accepts(SLOW, 1, 2, (0,) + (1,) * 1000 + (0, 0, 0))
        self.refuses(SLOW, 1, 2, (1,) * 1000 + (0, 0, 0, 0))
        self.accepts(CELLS, 0, 2, (3, 2) * 1000)
        self.refuses(CELLS, 0, 2, (3, 1) * 1000)

    def test_values_that_are_no_logs(self):
        for thing in (
            [], [0], [0, 0], (False,), (0, False), (0, True, 0), (2,), (0, 2), (-1,), (0, -1), "", "0", "00", ((),),
            ((0,),), (0, (0,)), {}, {0: 0}, (None,), (0, None), (0, "0"), ([],), 0, 1, True, False, (9999999999999,),
            (0,) * 1999 + (2,), (0,) * 1999 + (False,), (0,) * 1999 + ([0],),
        ):
            self.refuses(TURNS, 0, 0, thing)
            self.refuses(TURNS, 0, 1, thing)

    def test_spoiled_logs(self):
        for thing in spoiled((0, 0)):
            right = repr(thing) in [repr((0,) * many) for many in range(9)]
            self.assertIs(shows_uncovered(TURNS, 0, 0, thing), right, thing)

    def test_any_value(self):
        for thing in any_values():
            self.assertIs(shows_uncovered(TURNS, 0, 0, thing), thing == ())
            self.assertIs(shows_uncovered(TURNS, 0, 1, thing), thing is None)
            for second in (0, 1):
                self.refuses(TURNS, 0, second, (0, thing, 2))
                self.refuses(TURNS, 0, second, [thing])

    def test_wrong_inputs(self):
        for value in (None, (), (0, 0), [], "", TURNS):
            for thing in NO_SYSTEMS:
                with self.assertRaises(NoSystem):
                    shows_uncovered(thing, 0, 0, value)
            for wrong in NO_OPERATIONS:
                for first, second in ((wrong, 0), (0, wrong), (wrong, wrong)):
                    with self.assertRaises(NoOperation):
                        shows_uncovered(CELLS, first, second, value)


class Coverage(unittest.TestCase):
    def test_examples(self):
        self.assertEqual(coverage(TURNS), ((False, True), (False, True)))
        self.assertEqual(
            coverage(CELLS),
            ((True, True, False, False), (True, True, False, False), (False, False, True, True),
             (False, False, True, True)),
        )
        self.assertEqual(coverage(ONE_STATE), ((True,),))

    def test_rows_that_are_all_true_or_all_false(self):
        self.assertEqual(coverage(LONELY), ((True,) * 6,) * 6)
        self.assertEqual(coverage(SLOW), ((False,) * 3,) * 3)
        self.assertEqual(coverage(ROUND), ((False,) * 2,) * 2)
        self.assertEqual(coverage(ONWARD), ((False,),))
        self.assertEqual(coverage(SWITCH)[5], (True,) * 6)
        self.assertEqual([row[5] for row in coverage(SWITCH)], [False] * 5 + [True])
        self.assertEqual(coverage(HIDDEN), ((True, True), (True, True)))

    def test_a_row_is_for_the_one_that_is_covered(self):
        for least in range(6):
            self.assertEqual(coverage(GREATER)[least], (False,) * least + (True,) * (6 - least))

    def test_it_tells_what_uncovered_tells(self):
        for system in all_systems():
            rows = coverage(system)
            self.assertEqual(len(rows), len(system[2]))
            for first, second in pairs_of(system):
                self.assertIs(rows[first][second], uncovered(system, first, second) is None)

    def test_tuples_of_plain_bools(self):
        for system in all_systems():
            rows = coverage(system)
            self.assertIs(type(rows), tuple)
            for row in rows:
                self.assertIs(type(row), tuple)
                self.assertEqual(len(row), len(system[2]))
                self.assertTrue(all(type(part) is bool for part in row))

    def test_it_is_found_by_all_logs_of_few_entries(self):
        for system in list(FIXED_SYSTEMS) + list(slow_systems(50, seed=32)):
            self.assertEqual([list(row) for row in coverage(system)], plain_coverage(system))

    def test_what_covers_an_operation_that_covers_another_one(self):
        for system in all_systems():
            rows = coverage(system)
            for f, g, h in itertools.product(range(len(rows)), repeat=3):
                if rows[g][h] and rows[f][g]:
                    self.assertTrue(rows[f][h])

    def test_no_system(self):
        for thing in NO_SYSTEMS:
            with self.assertRaises(NoSystem):
                coverage(thing)


class BestKinds(unittest.TestCase):
    def test_examples(self):
        self.assertEqual(best_kinds(TURNS), (None, 0))
        self.assertEqual(best_kinds(CELLS), (0, 0, 1, 1))
        self.assertEqual(best_kinds(SWITCH), (0, 0, 0, 1, 1, 2))

    def test_six_kinds_one_and_none(self):
        self.assertEqual(best_kinds(GREATER), (0, 1, 2, 3, 4, 5))
        self.assertEqual(best_kinds(LONELY), (0, 0, 0, 0, 0, 0))
        self.assertEqual(best_kinds(ONE_STATE), (0,))
        self.assertEqual(best_kinds(HIDDEN), (0, 0))
        self.assertEqual(best_kinds(ONWARD), (None,))
        self.assertEqual(best_kinds(ROUND), (None, None))
        self.assertEqual(best_kinds(SLOW), (None, None, None))

    def test_numbered_in_the_order_of_their_first_operations(self):
        moved = CELLS[2][2], CELLS[2][0], (1, 0, 3, 2), CELLS[2][1], CELLS[2][3]
        self.assertEqual(best_kinds((4, 0, moved, (5, 4, 3, 2, 1))), (0, 1, None, 1, 0))
        best = best_kinds(SWITCH)
        for places in itertools.permutations(range(6)):
            other = renumbered(SWITCH, list(range(6)), list(places))
            alike = [best[places.index(entry)] for entry in range(6)]
            order = sorted(set(alike), key=alike.index)
            self.assertEqual(best_kinds(other), tuple([order.index(kind) for kind in alike]))

    def test_operations_that_are_covered_from_one_side_only(self):
        # Operation 1 covers operation 0 and not the other way round: each has a kind of its own.
        system = (3, 0, (GREATER[2][1][:3], GREATER[2][2][:3]), (None, None))
        self.assertEqual(coverage(system), ((True, True), (False, True)))
        self.assertEqual(best_kinds(system), (0, 1))
        # An operation that others cover, but not it itself, has none.
        self.assertEqual(best_kinds((3, 0, ((1, 2, 0), (0, 0, 0), (1, 1, 1)), (None,) * 3)), (None, 0, 0))

    def test_the_kinds_of_the_system_do_not_matter(self):
        for system in FIXED_SYSTEMS:
            for kinds in ((None,) * 6, (0,) * 6, (9, 8, 9, 8, 9, 8)):
                self.assertEqual(best_kinds(system[:3] + (kinds[:len(system[2])],)), best_kinds(system))

    def test_they_are_what_the_words_say(self):
        for system in all_systems():
            rows = coverage(system)
            kinds = best_kinds(system)
            self.assertIs(type(kinds), tuple)
            self.assertEqual(len(kinds), len(rows))
            seen = []
            for entry, kind in enumerate(kinds):
                self.assertEqual(kind is None, not rows[entry][entry])
                if kind is not None and kind not in seen:
                    self.assertEqual(kind, len(seen))
                    seen.append(kind)
                for other in range(len(rows)):
                    both = rows[entry][other] and rows[other][entry]
                    self.assertEqual(both, kind is not None and kind == kinds[other])

    def test_they_are_right(self):
        for system in all_systems():
            self.assertIsNone(fault(system[:3] + (best_kinds(system),)))

    def test_all_right_kinds_are_within_them(self):
        for system in all_systems():
            best = best_kinds(system)
            amount = len(best)
            choices = [system[3]]
            if amount < 4:
                choices = list(itertools.product([None] + list(range(amount)), repeat=amount))
            for kinds in choices:
                within = all(
                    best[one] is not None and (kinds[one] != kinds[other] or best[one] == best[other])
                    for one, other in pairs_of(system) if kinds[one] is not None
                )
                self.assertEqual(fault(system[:3] + (kinds,)) is None, within)

    def test_no_system(self):
        for thing in NO_SYSTEMS:
            with self.assertRaises(NoSystem):
                best_kinds(thing)


class Thinned(unittest.TestCase):
    def test_examples(self):
        self.assertEqual(thinned(TURNS, (0, 0, 1, 0)), (1, 0))
        self.assertEqual(thinned(TURNS, (0, 1, 0, 1)), (1,))
        self.assertEqual(thinned(TURNS, (0, 0, 0)), (0, 0, 0))
        self.assertEqual(thinned(CELLS, (1, 2, 0, 3)), (0, 3))
        self.assertEqual(thinned(SWITCH, (5, 0, 5, 3, 5, 1)), (3, 1))
        self.assertEqual(thinned(SWITCH, (0, 5)), (0, 5))
        self.assertEqual(thinned(GREATER, (1, 5, 2, 4, 4, 3, 0)), (5, 4, 3, 0))

    def test_the_empty_log(self):
        for system in all_systems():
            self.assertEqual(thinned(system, ()), ())

    def test_the_last_entry_stays(self):
        for system in many_systems():
            for entry in range(len(system[2])):
                self.assertEqual(thinned(system, (entry,)), (entry,))
                self.assertEqual(thinned(system, (0, entry))[-1], entry)

    def test_an_entry_that_only_a_much_later_one_covers(self):
        self.assertEqual(thinned(TURNS, (0,) * 39 + (1,)), (1,))
        self.assertEqual(thinned(CELLS, (0,) + (2, 3) * 19 + (1,)), (3, 1))

    def test_entries_behind_the_one_that_covers_stay(self):
        self.assertEqual(thinned(TURNS, (1,) + (0,) * 39), (1,) + (0,) * 39)
        self.assertEqual(thinned(TURNS, (0,) * 20 + (1,) + (0,) * 19), (1,) + (0,) * 19)

    def test_a_log_of_forty_entries_and_more(self):
        self.assertEqual(thinned(CELLS, (0, 1, 2, 3) * 10), (1, 3))
        self.assertEqual(thinned(ROUND, (0, 1) * 20), (0, 1) * 20)
        self.assertEqual(thinned(ONWARD, (0,) * 41), (0,) * 41)
        self.assertEqual(thinned(TURNS, (0, 1) * 500 + (0, 0)), (1, 0, 0))

    def test_it_leaves_out_what_the_words_say(self):
        dice = random.Random(32)
        for system in all_systems():
            rows = coverage(system)
            for log in [random_log(dice, system, most) for most in (40, 40, 6, 6)]:
                self.assertEqual(thinned(system, log), plain_thinned(rows, log))

    def test_by_all_logs_of_few_entries(self):
        for system in list(FIXED_SYSTEMS) + list(slow_systems(25, seed=33)):
            rows = plain_coverage(system)
            for log in list(all_logs(system, 4))[:200]:
                self.assertEqual(thinned(system, log), plain_thinned(rows, log))

    def test_it_never_changes_the_outcome(self):
        dice = random.Random(33)
        for system in all_systems():
            for log in [random_log(dice, system, most) for most in (40, 40, 6, 6)]:
                rest = thinned(system, log)
                self.assertIs(type(rest), tuple)
                self.assertEqual(outcome(system, rest), outcome(system, log))
                self.assertTrue(come_to_the_same(system, rest, log))

    def test_wrong_inputs(self):
        for thing in NO_SYSTEMS:
            with self.assertRaises(NoSystem):
                thinned(thing, ())
        for wrong in NO_LOGS:
            with self.assertRaises(NoLog):
                thinned(CELLS, wrong)
            with self.assertRaises(NoSystem):
                thinned(CELLS[:3], wrong)


class WhatHolds(unittest.TestCase):
    """[90] for thinning and the best kinds."""

    def test_thinning_twice_is_the_same_as_once(self):
        dice = random.Random(92)
        for system in all_systems():
            for log in [random_log(dice, system) for _ in range(5)]:
                once = thinned(system, log)
                self.assertEqual(thinned(system, once), once)

    def test_with_right_kinds_thinning_leaves_no_entry_that_compacting_leaves_out(self):
        dice = random.Random(93)
        for system in all_systems():
            for right in (system, system[:3] + (best_kinds(system),)):
                if fault(right) is None:
                    for log in [random_log(dice, right) for _ in range(3)]:
                        rest = thinned(right, log)
                        self.assertTrue(is_within(rest, compacted(right, log)))
                        self.assertEqual(thinned(right, compacted(right, log)), rest)
                        self.assertEqual(compacted(right, rest), rest)

    def test_states_and_operations_numbered_otherwise(self):
        dice = random.Random(94)
        for system in all_systems():
            places = dice.sample(range(len(system[2])), len(system[2]))
            other = renumbered(system, dice.sample(range(system[0]), system[0]), places)
            rows = coverage(other)
            for first, second in pairs_of(system):
                found = uncovered(system, first, second)
                self.assertIs(rows[places[first]][places[second]], found is None)
                if found is not None:
                    renamed = tuple([places[entry] for entry in found])
                    self.assertIs(shows_uncovered(other, places[first], places[second], renamed), True)
                    self.assertEqual(len(uncovered(other, places[first], places[second])), len(found))
            for log in [random_log(dice, system, 12) for _ in range(3)]:
                kept = tuple([places[entry] for entry in thinned(system, log)])
                self.assertEqual(thinned(other, tuple([places[entry] for entry in log])), kept)

    def test_one_more_state_that_is_not_reachable(self):
        dice = random.Random(95)
        for system in [one for one in all_systems() if one[0] < 6]:
            other, _ = with_hidden_state(dice, system)
            self.assertEqual(len(plain_reachable(other)), len(plain_reachable(system)))
            self.assertEqual(coverage(other), coverage(system))
            self.assertEqual(best_kinds(other), best_kinds(system))
            for first, second in pairs_of(system):
                self.assertEqual(uncovered(other, first, second), uncovered(system, first, second))
                for log in all_logs(system, 1):
                    self.assertIs(
                        shows_uncovered(other, first, second, log), shows_uncovered(system, first, second, log)
                    )


if __name__ == "__main__":
    unittest.main()
