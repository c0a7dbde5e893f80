"""What holds over the whole program: [90], and [2] for the objects of the package beside all functions."""

import random
import unittest

from lastofkind.covers import best_kinds, coverage, shows_uncovered, thinned
from lastofkind.effects import Effect
from lastofkind.kinds import compacted, fault, shows_changed, shows_fault
from lastofkind.orders import by_set, order_fault
from lastofkind.repeats import firsts, repeat_fault
from lastofkind.stores import Compact, Once, Store, Thin
from lastofkind.systems import is_system, outcome, reachable
from lastofkind.texts import read_system, system_text

from tests.helpers import (
    CELLS, FIXED_SYSTEMS, TURNS, all_systems, filled, many_systems, package_objects, random_log, renumbered,
)


def kept_by_compacting(system, log):
    """The positions of the entries that compacting keeps."""
    kinds = [system[3][entry] for entry in log]
    return [at for at, kind in enumerate(kinds) if kind is None or kind not in kinds[at + 1:]]


def kept_by_thinning(system, log):
    """The positions of the entries that thinning keeps."""
    rows = coverage(system)
    return [at for at, entry in enumerate(log) if not any([rows[entry][later] for later in log[at + 1:]])]


def entries_at(log, places):
    return tuple([log[at] for at in places])


class Twice(unittest.TestCase):
    def test_done_twice_each_is_the_same_as_done_once(self):
        dice = random.Random(901)
        for system in all_systems():
            log = random_log(dice, system)
            for leaving_out in (compacted, thinned, firsts):
                once = leaving_out(system, log)
                self.assertEqual(leaving_out(system, once), once)

    def test_a_store_keeps_its_own_entries(self):
        dice = random.Random(902)
        for system in many_systems():
            stores = [Store(system), Thin(system)]
            stores += [Compact(system)] if fault(system) is None else []
            stores += [Once(system)] if repeat_fault(system) is None else []
            for store in stores:
                store.extend(random_log(dice, system))
                kept = store.entries
                store.entries = kept
                self.assertEqual(store.entries, kept)


class RightKinds(unittest.TestCase):
    def test_thinning_leaves_no_entry_that_compacting_leaves_out(self):
        dice = random.Random(903)
        for system in all_systems():
            for right in (system, system[:3] + (best_kinds(system),)):
                if fault(right) is None:
                    log = random_log(dice, right)
                    thin, compact = kept_by_thinning(right, log), kept_by_compacting(right, log)
                    self.assertEqual(thinned(right, log), entries_at(log, thin))
                    self.assertEqual(compacted(right, log), entries_at(log, compact))
                    self.assertTrue(set(thin) <= set(compact))
                    self.assertLessEqual(len(filled(Thin(right), log)), len(filled(Compact(right), log)))

    def test_a_system_with_its_best_kinds_has_right_kinds(self):
        for system in all_systems():
            best = system[:3] + (best_kinds(system),)
            self.assertTrue(is_system(best))
            self.assertIsNone(fault(best))
            self.assertEqual(best_kinds(best), best[3])
            self.assertEqual(Compact(best).system, best)
            self.assertEqual(read_system(system_text(best)), best)


class Renumbered(unittest.TestCase):
    def test_states_and_operations_numbered_otherwise(self):
        dice = random.Random(904)
        for system in all_systems():
            names = dice.sample(range(system[0]), system[0])
            places = dice.sample(range(len(system[2])), len(system[2]))
            other = renumbered(system, names, places)
            self.assertEqual(read_system(system_text(other)), other)
            self.assertEqual(len(system_text(other)), len(system_text(system)))
            for judge in (fault, repeat_fault, order_fault):
                self.assertIs(judge(other) is None, judge(system) is None)
            self.assertIs(by_set(other), by_set(system))
            one, two = best_kinds(system), best_kinds(other)
            for entry, place in enumerate(places):
                self.assertIs(two[place] is None, one[entry] is None)
                for later in range(entry):
                    self.assertIs(two[place] == two[places[later]], one[entry] == one[later])
            log = random_log(dice, system)
            renamed = entries_at(places, log)
            for leaving_out in (compacted, thinned, firsts):
                self.assertEqual(leaving_out(other, renamed), entries_at(places, leaving_out(system, log)))
            effect = Effect.of(other, renamed)
            for state in reachable(system):
                self.assertEqual(effect(names[state]), names[Effect.of(system, log)(state)])
            self.assertEqual(outcome(other, renamed), names[outcome(system, log)])


class Objects(unittest.TestCase):
    """Objects of the package are none of the values that are judged, alone and as parts."""

    def test_no_system(self):
        for thing in package_objects():
            self.assertIs(is_system(thing), False)
            for at in range(4):
                self.assertIs(is_system(CELLS[:at] + (thing,) + CELLS[at + 1:]), False)
            for value in ((thing,) * 4, (4, 0, (thing,) * 4, CELLS[3]), CELLS[:3] + ((thing,) * 4,), [thing]):
                self.assertIs(is_system(value), False)
            self.assertIs(is_system((1, 0, ((thing,),), (None,))), False)

    def test_nothing_that_shows_something(self):
        for system in FIXED_SYSTEMS:
            for thing in package_objects():
                values = [thing, (thing,), (thing, thing), (0, thing), (thing, (0, 0)), (0, (thing, 0))]
                for value in values + [(0, (0, thing)), (0, (0, thing, 0)), [thing], {0: thing}, (0, 0, thing)]:
                    self.assertIs(shows_fault(system, value), False)
                    self.assertIs(shows_changed(system, value), False)
                    self.assertIs(shows_uncovered(system, 0, 0, value), False)

    def test_a_store_with_a_log_that_shows_something_is_no_log(self):
        store = filled(Store(TURNS), (0, 0))
        self.assertIs(shows_changed(TURNS, store.entries), True)
        self.assertIs(shows_changed(TURNS, store), False)
        self.assertIs(shows_fault(TURNS, (0, store.entries)), True)
        self.assertIs(shows_fault(TURNS, (0, store)), False)
        self.assertIs(shows_uncovered(TURNS, 0, 0, Store(TURNS).entries), True)
        self.assertIs(shows_uncovered(TURNS, 0, 0, Store(TURNS)), False)

    def test_results_of_objects_may_be_passed_back(self):
        store = filled(Thin(TURNS), (0, 1, 0, 0))
        self.assertEqual(thinned(store.system, store.entries), store.entries)
        self.assertEqual(outcome(store.system, store.entries), store.outcome)
        effect = Effect.of(store.system, store.entries)
        self.assertEqual(Effect(effect.system, effect.moves), effect)
        self.assertEqual(effect(store.system[1]), store.outcome)
        self.assertEqual(Effect(effect.system, (effect * 3).moves), effect + effect + effect)


if __name__ == "__main__":
    unittest.main()
