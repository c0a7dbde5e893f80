"""Stores of all six classes: [70], [71], and [2] as far as it speaks of them."""

import functools
import random
import unittest

from lastofkind.covers import best_kinds
from lastofkind.effects import Effect
from lastofkind.errors import (
    KindError, NoLog, NoNumber, NoOperation, NoSystem, NothingDone, NotRight, NotSteady, TooMany,
)
from lastofkind.kinds import fault
from lastofkind.repeats import repeat_fault
from lastofkind.stores import Compact, Limited, LimitedThin, Once, Store, Thin

from tests.helpers import (
    BETWEEN, CELLS, FIXED_SYSTEMS, GREATER, HIDDEN, LONELY, NO_LOGS, NO_OPERATIONS, NO_SYSTEMS, ONE_STATE, ONWARD,
    ROUND, SLOW, SWITCH, TURNS, any_values, filled, is_below, made_anew, many_systems, package_objects,
    plain_compacted, plain_coverage, plain_faults, plain_firsts, plain_reachable, plain_thinned, random_log, renumbered,
    spoiled, walked,
)

CLASSES = (Store, Compact, Thin, Once, Limited, LimitedThin)
LIMITED = (Limited, LimitedThin)
# Of this one there are stores of all classes: it has right kinds, and its operations may be delivered again.
CALM = GREATER


def suits(made, system):
    """Whether there are stores of this class for the system, straight from the words."""
    if made is Compact:
        return not plain_faults(system)
    if made is Once:
        states, entries = plain_reachable(system), range(len(system[2]))
        pairs = [((a, a), (a,)) for a in entries] + [((a, b, a), (a, b)) for a in entries for b in entries if a != b]
        return all(walked(system, at, one) == walked(system, at, other) for one, other in pairs for at in states)
    return True


@functools.lru_cache(maxsize=None)
def known_coverage(system):
    return plain_coverage(system)


def plain_kept(made, system, log):
    """What a store of this class keeps of a log."""
    if made is Compact:
        return plain_compacted(system, log)
    if made is Once:
        return plain_firsts(log)
    if made in (Thin, LimitedThin):
        return plain_thinned(known_coverage(system), log)
    return log


class Model:
    """What a store of a class with a limit does, told by the logs behind each change."""

    def __init__(self, made, system, limit):
        self.made, self.system, self.limit = made, system, limit
        self.rows = [()]

    def change(self, log):
        """Whether the change is done; otherwise how many entries there would be."""
        kept = plain_kept(self.made, self.system, log)
        if len(kept) > self.limit:
            return len(kept)
        self.rows.append(kept)
        return True


def shown(store):
    """All that can be seen of a store without a change."""
    many = len(store)
    return (
        store.system, store.entries, store.outcome, store.changes, many, [store[at] for at in range(many)],
        [entry for entry in range(10) if entry in store], repr(store),
    )


def taken_back(store):
    """The entries behind each undo, until nothing is left to take back."""
    rows = []
    while store.changes:
        store.undo()
        rows.append(store.entries)
    return rows


class Case(unittest.TestCase):
    def refuse(self, error, call, *arguments):
        """Hold that a call raises this exception, of its class alone, and return it."""
        with self.assertRaises(KindError) as caught:
            call(*arguments)
        self.assertIs(type(caught.exception), error, (call, arguments))
        return caught.exception

    def refuse_as_too_many(self, amount, limit, call, *arguments):
        error = self.refuse(TooMany, call, *arguments)
        self.assertEqual((error.amount, error.limit), (amount, limit))

    def hold(self, store, model):
        entries = model.rows[-1]
        self.assertEqual(store.entries, entries)
        self.assertIs(type(store.entries), tuple)
        self.assertEqual(store.outcome, walked(model.system, model.system[1], entries))
        self.assertEqual(store.changes, len(model.rows) - 1)
        self.assertEqual(len(store), len(entries))
        self.assertEqual([store[at] for at in range(len(entries))], list(entries))
        for entry in range(-1, 7):
            self.assertIs(entry in store, entry in entries)


class Empty(Case):
    def test_a_new_store(self):
        for made in CLASSES:
            for system in (CALM, ONE_STATE, LONELY):
                store = made(system)
                self.assertEqual(shown(store), (
                    system, (), system[1], 0, 0, [], [], f"{made.__name__}(0 entries)",
                ))
                self.refuse(NothingDone, store.undo)
                self.refuse(NoNumber, store.__getitem__, 0)

    def test_the_outcome_is_the_start(self):
        self.assertEqual([Store(system).outcome for system in (SWITCH, HIDDEN, ROUND)], [2, 3, 1])

    def test_two_stores_do_not_share_their_logs(self):
        for made in CLASSES:
            one, other = made(CALM), made(CALM)
            one.add(1)
            self.assertEqual((one.entries, one.changes), ((1,), 1))
            self.assertEqual((other.entries, other.changes), ((), 0))


class Changes(Case):
    def test_each_change(self):
        store = Store(CELLS)
        self.assertIsNone(store.add(1))
        self.assertEqual((store.entries, store.outcome, store.changes), ((1,), 2, 1))
        self.assertIsNone(store(3))
        self.assertEqual((store.entries, store.outcome, store.changes), ((1, 3), 3, 2))
        self.assertIsNone(store.extend((0, 3, 2)))
        self.assertEqual((store.entries, store.outcome, store.changes), ((1, 3, 0, 3, 2), 0, 3))
        self.assertIsNone(store.assign_entries((3, 3)))
        self.assertEqual((store.entries, store.outcome, store.changes), ((3, 3), 1, 4))
        store.entries = (1, 0, 1)
        self.assertEqual((store.entries, store.outcome, store.changes), ((1, 0, 1), 2, 5))
        self.assertIsNone(store.undo())
        self.assertEqual((store.entries, store.outcome, store.changes), ((3, 3), 1, 4))
        self.assertEqual(taken_back(store), [(1, 3, 0, 3, 2), (1, 3), (1,), ()])

    def test_a_change_that_leaves_everything_as_it_was(self):
        for made in CLASSES:
            store = filled(made(CALM), (2, 5))
            kept = store.entries
            store.extend(())
            self.assertEqual((store.entries, store.changes), (kept, 2))
            store.assign_entries(kept)
            store.entries = kept
            self.assertEqual((store.entries, store.changes), (kept, 4))
            for changes in (3, 2, 1):
                store.undo()
                self.assertEqual((store.entries, store.changes), (kept, changes))
            store.undo()
            self.assertEqual((store.entries, store.changes), ((), 0))
            store.extend(())
            store.assign_entries(())
            self.assertEqual((store.entries, store.changes), ((), 2))
            self.assertEqual(taken_back(store), [(), ()])
            self.refuse(NothingDone, store.undo)

    def test_changes_that_leave_out_all_that_they_put(self):
        store = filled(Once(CALM), (1, 2))
        store.add(1)
        store(2)
        store.extend((2, 1, 1))
        self.assertEqual((store.entries, store.changes), ((1, 2), 4))
        store.undo()
        self.assertEqual((store.entries, store.changes), ((1, 2), 3))

    def test_undo_of_everything(self):
        for made in CLASSES:
            store = made(CALM)
            for entry in (3, 1, 4, 1):
                store.add(entry)
            self.assertEqual(len(taken_back(store)), 4)
            for _ in range(3):
                self.refuse(NothingDone, store.undo)
                self.assertEqual((store.entries, store.changes), ((), 0))
            store.add(5)
            self.assertEqual((store.entries, store.changes), ((5,), 1))

    def test_undo_behind_assigning(self):
        for made in CLASSES:
            store = filled(made(CALM), (5,))
            store.assign_entries((0, 1))
            store.undo()
            self.assertEqual((store.entries, store.changes), ((5,), 1))
            store.entries = (2, 3)
            self.assertEqual(store.changes, 2)
            store.undo()
            self.assertEqual((store.entries, store.changes), ((5,), 1))
            store.undo()
            self.refuse(NothingDone, store.undo)

    def test_what_was_taken_back_is_gone(self):
        store = Store(CELLS)
        for entry in (0, 1, 2):
            store.add(entry)
        store.undo()
        store.undo()
        store.add(3)
        self.assertEqual((store.entries, store.changes), ((0, 3), 2))
        self.assertEqual(taken_back(store), [(0,), ()])

    def test_undo_brings_back_what_was_left_out(self):
        compact = filled(Compact(CELLS), (1, 2), (0, 3))
        self.assertEqual(compact.entries, (0, 3))
        self.assertEqual(taken_back(compact), [(1, 2), ()])
        thin = filled(LimitedThin(CALM), (1, 2))
        thin.add(5)
        self.assertEqual(thin.entries, (5,))
        self.assertEqual(taken_back(thin), [(2,), ()])

    def test_many_changes(self):
        store = LimitedThin(CALM, 2)
        for at in range(2000):
            store.add(5 * (at % 2))
        self.assertEqual((store.entries, store.changes), ((5,), 2000))
        self.assertEqual(len(taken_back(store)), 2000)


class LeavingOut(Case):
    def test_examples(self):
        self.assertEqual(filled(Compact(CELLS), (1, 2, 0, 3)).entries, (0, 3))
        self.assertEqual(filled(Thin(TURNS), (0, 0, 1, 0, 0)).entries, (1, 0, 0))
        self.assertEqual(filled(LimitedThin(TURNS), (0, 0, 1, 0, 0)).entries, (1, 0, 0))
        self.assertEqual(filled(Once(CALM), (3, 1, 3, 2, 1)).entries, (3, 1, 2))
        self.assertEqual(filled(Store(CELLS), (1, 2, 0, 3, 3)).entries, (1, 2, 0, 3, 3))
        self.assertEqual(filled(Limited(CELLS), (1, 2, 0, 3, 3)).entries, (1, 2, 0, 3, 3))

    def test_each_class_leaves_out_in_its_own_way(self):
        # Operation 1 covers 0 but has no kind, 2 and 3 have one kind, and all of them may be delivered again.
        system = GREATER[:2] + (GREATER[2][:4], (None, None, 3, 4))
        log = (0, 2, 1, 3, 1, 2)
        self.assertEqual([filled(made(system, *([40] if made in LIMITED else [])), log).entries for made in CLASSES], [
            log, (0, 1, 3, 1, 2), (3, 2), (0, 2, 1, 3), log, (3, 2),
        ])

    def test_one_entry_at_a_time(self):
        dice = random.Random(71)
        for system in many_systems():
            for made in [one for one in CLASSES if suits(one, system)]:
                log = random_log(dice, system, 12)
                store = made(system, 40) if made in LIMITED else made(system)
                for at, entry in enumerate(log):
                    (store.add if at % 2 else store)(entry)
                self.assertEqual(store.entries, plain_kept(made, system, log))
                self.assertEqual(store.outcome, walked(system, system[1], log))
                self.assertEqual(store.changes, len(log))

    def test_in_pieces(self):
        dice = random.Random(72)
        for system in many_systems():
            for made in [one for one in CLASSES if suits(one, system)]:
                logs = [random_log(dice, system, 9) for _ in range(4)]
                store = made(system, 40) if made in LIMITED else made(system)
                store.assign_entries(logs[0])
                for log in logs[1:]:
                    store.extend(log)
                self.assertEqual(store.entries, plain_kept(made, system, sum(logs, ())))
                self.assertEqual(store.outcome, walked(system, system[1], sum(logs, ())))
                self.assertEqual(store.changes, 4)

    def test_assigning_forgets_what_was_there(self):
        dice = random.Random(73)
        for system in many_systems():
            for made in [one for one in CLASSES if suits(one, system)]:
                store = made(system, 40) if made in LIMITED else made(system)
                store.extend(random_log(dice, system, 9))
                one, other = random_log(dice, system, 30), random_log(dice, system, 30)
                store.entries = one
                self.assertEqual(store.entries, plain_kept(made, system, one))
                store.assign_entries(other)
                self.assertEqual(store.entries, plain_kept(made, system, other))

    def test_right_kinds_of_more_systems(self):
        dice = random.Random(74)
        for system in many_systems():
            right = system[:3] + (best_kinds(system),)
            log = random_log(dice, right)
            store = Compact(right)
            for entry in log[:20]:
                store.add(entry)
            self.assertEqual(store.outcome, walked(right, right[1], log[:20]))
            self.assertEqual(store.entries, plain_compacted(right, log[:20]))


class AllActions(Case):
    """Rows of changes of all kinds, done and refused, held against the logs behind each of them."""

    def act(self, dice, store, model):
        system, before = model.system, model.rows[-1]
        log = random_log(dice, system, dice.choice((3, 8, 40)))
        choice = dice.randrange(7)
        if choice == 0 and len(model.rows) > 1:
            self.assertIsNone(store.undo())
            model.rows.pop()
            return
        if choice in (1, 2):
            call, argument, after = store.extend, log, before + log
        elif choice == 3:
            call, argument, after = store.assign_entries, log, log
        elif choice == 4:
            call, argument, after = (lambda value: setattr(store, "entries", value)), log, log
        else:
            entry = dice.randrange(len(system[2]))
            call, argument, after = (store.add if choice == 5 else store), entry, before + (entry,)
        done = model.change(after)
        if done is True:
            self.assertIsNone(call(argument))
        else:
            self.refuse_as_too_many(done, model.limit, call, argument)

    def follow(self, seed, systems, rounds):
        dice = random.Random(seed)
        for system in systems:
            for made in [one for one in CLASSES if suits(one, system)]:
                limit = dice.choice((0, 1, 5, 7, 40)) if made in LIMITED else 40
                store = made(system, limit) if made in LIMITED else made(system)
                model = Model(made, system, limit)
                for _ in range(rounds):
                    self.act(dice, store, model)
                    self.hold(store, model)
                self.assertEqual(taken_back(store), model.rows[-2::-1])
                self.refuse(NothingDone, store.undo)

    def test_fixed_systems(self):
        self.follow(75, FIXED_SYSTEMS, 40)

    def test_many_systems(self):
        self.follow(76, many_systems(), 6)


class Limits(Case):
    def test_forty_entries(self):
        for made in (Store, Thin):
            store = filled(made(ROUND), (0, 1) * 20)
            self.assertEqual((len(store), store[39], store.changes), (40, 1, 1))
            self.assertEqual(repr(store), f"{made.__name__}(40 entries)")
            for call, argument, amount in (
                (store.add, 0, 41), (store, 1, 41), (store.extend, (0,), 41), (store.extend, (0, 1) * 20, 80),
                (store.assign_entries, (1,) * 41, 41), (store.assign_entries, (0,) * 300, 300),
            ):
                self.refuse_as_too_many(amount, 40, call, argument)
                self.assertEqual((store.entries, store.changes), ((0, 1) * 20, 1))
            with self.assertRaises(TooMany) as caught:
                store.entries = (0,) * 42
            self.assertEqual((caught.exception.amount, caught.exception.limit), (42, 40))
            self.assertEqual((store.entries, store.changes), ((0, 1) * 20, 1))
            store.extend(())
            store.entries = (1,) * 40
            self.assertEqual((len(store), store.changes), (40, 3))

    def test_one_at_a_time_up_to_forty(self):
        store = Store(ONE_STATE)
        for many in range(40):
            self.assertEqual(len(store), many)
            store.add(0)
        self.refuse_as_too_many(41, 40, store.add, 0)
        self.assertEqual((len(store), store.changes), (40, 40))

    def test_forty_entries_of_a_compact(self):
        system = CELLS[:3] + ((None, None, 1, 1),)
        store = filled(Compact(system), (0, 1) * 20)
        self.refuse_as_too_many(41, 40, store.add, 2)
        self.refuse_as_too_many(42, 40, store.extend, (2, 1, 3))
        self.refuse_as_too_many(41, 40, store.assign_entries, (0, 2) * 40 + (3,))
        self.assertEqual((store.entries, store.changes), ((0, 1) * 20, 1))

    def test_the_limits_count_behind_the_leaving_out(self):
        for made in (Compact, Thin, Once, LimitedThin):
            store = made(CALM)
            store.extend((5, 0) * 40)
            self.assertLessEqual(len(store), 2)
            store.assign_entries((5, 0) * 300)
            self.assertLessEqual(len(store), 2)
            store.entries = (1,) * 41
            self.assertEqual((store.entries, store.changes), ((1,), 3))
            store.add(1)
            self.assertEqual((store.entries, store.changes), ((1,), 4))

    def test_back_under_the_limit_within_one_change(self):
        # Going on stays until going back comes, which covers all of it.
        store = filled(Thin(TURNS), (0,) * 40)
        self.refuse_as_too_many(41, 40, store.add, 0)
        self.refuse_as_too_many(50, 40, store.extend, (0,) * 10)
        store.extend((0,) * 10 + (1,))
        self.assertEqual((store.entries, store.changes), ((1,), 2))
        store.undo()
        store.add(1)
        self.assertEqual((store.entries, store.changes), ((1,), 2))
        store = filled(LimitedThin(TURNS, 2), (0, 0))
        self.refuse_as_too_many(3, 2, store.add, 0)
        store.extend((0, 0, 1, 0))
        self.assertEqual(store.entries, (1, 0))
        self.refuse_as_too_many(3, 2, store.extend, (0, 1, 0, 0))
        store = filled(Compact(CELLS[:3] + ((0, 0, None, None),)), (2, 3) * 19 + (2, 0))
        store.extend((1, 0, 1))
        self.assertEqual(store.entries, (2, 3) * 19 + (2, 1))

    def test_limits_of_their_own(self):
        for made in LIMITED:
            for most in (0, 1, 5, 39, 40):
                store = made(ROUND, most)
                self.assertEqual(store.most, most)
                store.extend((0,) * most)
                self.assertEqual(len(store), most)
                self.refuse_as_too_many(most + 1, most, store.add, 1)
                self.refuse_as_too_many(most + 1, most, store, 1)
                self.refuse_as_too_many(most + 3, most, store.extend, (1, 1, 0))
                self.refuse_as_too_many(most + 1, most, store.assign_entries, (1,) * (most + 1))
                self.assertEqual((store.entries, store.changes), ((0,) * most, 1))
                store.extend(())
                store.assign_entries(())
                self.assertEqual((store.entries, store.changes), ((), 3))

    def test_the_limit_without_a_word(self):
        for made in LIMITED:
            store = filled(made(ROUND), (0, 1, 0, 1, 1))
            self.assertEqual(store.most, 5)
            self.refuse_as_too_many(6, 5, store.add, 0)
            self.assertEqual(made(ROUND, most=7).most, 7)
            self.assertEqual(made(system=ROUND, most=0).most, 0)

    def test_a_limit_of_none(self):
        for made in LIMITED:
            store = made(CALM, 0)
            self.refuse_as_too_many(1, 0, store.add, 3)
            self.refuse_as_too_many(1, 0, store.assign_entries, (3,))
            self.assertEqual((store.entries, store.changes, store.outcome), ((), 0, 0))

    def test_undo_is_never_refused_because_of_a_limit(self):
        for made in LIMITED:
            store = filled(made(ROUND, 3), (0, 1, 1))
            store.assign_entries(())
            store.undo()
            self.assertEqual(store.entries, (0, 1, 1))

    def test_the_limit_is_counted_once_for_each_change(self):
        # Entry by entry the third one would be refused.
        store = LimitedThin(TURNS, 2)
        store.extend((0, 0, 0, 0, 1))
        self.assertEqual(store.entries, (1,))
        store = Limited(TURNS, 2)
        self.refuse_as_too_many(5, 2, store.extend, (0, 0, 0, 0, 1))


class Trying(Case):
    def test_a_block_that_ends_well(self):
        for made in CLASSES:
            store = filled(made(CALM), (5,))
            with store.trying():
                store.add(1)
                store(0)
            entries = plain_kept(made, CALM, (5, 1, 0))
            self.assertEqual((store.entries, store.changes), (entries, 3))
            self.assertEqual(taken_back(store), [plain_kept(made, CALM, (5, 1)), (5,), ()])

    def test_a_block_that_raises(self):
        for made in CLASSES:
            for error in (ValueError, KeyError, KindError, KeyboardInterrupt, StopIteration):
                store = filled(made(CALM), (5,), (1,))
                before = shown(store)
                raised = error()
                with self.assertRaises(error) as caught:
                    with store.trying():
                        store.add(0)
                        store.entries = (2,)
                        store.extend((3, 4))
                        raise raised
                self.assertIs(caught.exception, raised)
                self.assertEqual(shown(store), before)
                self.assertEqual(taken_back(store), [(5,), ()])

    def test_undo_within_a_block_that_raises(self):
        store = filled(Store(CELLS), (0,), (1,), (2,))
        with self.assertRaises(ZeroDivisionError):
            with store.trying():
                store.undo()
                store.undo()
                store.add(3)
                self.assertEqual((store.entries, store.changes), ((0, 3), 2))
                raise ZeroDivisionError
        self.assertEqual((store.entries, store.changes), ((0, 1, 2), 3))
        self.assertEqual(taken_back(store), [(0, 1), (0,), ()])

    def test_undo_of_everything_within_a_block(self):
        store = filled(Store(CELLS), (0,), (1,))
        with store.trying():
            self.assertEqual(taken_back(store), [(0,), ()])
            self.refuse(NothingDone, store.undo)
        self.assertEqual((store.entries, store.changes), ((), 0))
        store = filled(Store(CELLS), (0,), (1,))
        with self.assertRaises(NothingDone):
            with store.trying():
                taken_back(store)
                store.undo()
        self.assertEqual((store.entries, store.changes), ((0, 1), 2))
        self.assertEqual(taken_back(store), [(0,), ()])

    def test_a_block_without_a_change(self):
        store = filled(Store(CELLS), (0,))
        with store.trying():
            pass
        self.assertEqual((store.entries, store.changes), ((0,), 1))
        with self.assertRaises(LookupError):
            with store.trying():
                raise LookupError
        self.assertEqual((store.entries, store.changes), ((0,), 1))

    def test_a_block_that_is_left_without_an_exception(self):
        store = Store(CELLS)

        def left_early():
            with store.trying():
                store.add(2)
                return 7

        self.assertEqual(left_early(), 7)
        for entry in (1, 0):
            with store.trying():
                store.add(entry)
                break
        self.assertEqual((store.entries, store.changes), ((2, 1), 2))

    def test_a_refused_change_within_a_block(self):
        for made in CLASSES:
            store = filled(made(CALM), (4,))
            with store.trying():
                store.add(2)
                before = shown(store)
                self.refuse(NoOperation, store.add, 6)
                self.refuse(NoLog, store.extend, [0])
                self.refuse(NoLog, store.assign_entries, (0, True))
                self.assertEqual(shown(store), before)
            self.assertEqual(shown(store), before)

    def test_a_refused_change_that_leaves_the_block(self):
        store = filled(Limited(CELLS, 2), (0,))
        with self.assertRaises(TooMany) as caught:
            with store.trying():
                store.add(1)
                store.add(2)
        self.assertEqual((caught.exception.amount, caught.exception.limit), (3, 2))
        self.assertEqual((store.entries, store.changes), ((0,), 1))
        with self.assertRaises(TooMany):
            with store.trying():
                store.add(3)
                store.entries = (0,) * 41
        self.assertEqual((store.entries, store.changes), ((0,), 1))

    def test_the_entering_counts_and_not_the_call(self):
        store = Store(CELLS)
        block = store.trying()
        store.add(3)
        self.assertEqual((store.entries, store.changes), ((3,), 1))
        with self.assertRaises(ValueError):
            with block:
                store.add(1)
                raise ValueError
        self.assertEqual((store.entries, store.changes), ((3,), 1))

    def test_one_within_another(self):
        for inner, outer, entries in (
            (False, False, (0, 1, 2, 3)), (True, False, (0, 1, 3)), (False, True, (0,)), (True, True, (0,)),
        ):
            store = filled(Store(CELLS), (0,))
            try:
                with store.trying():
                    store.add(1)
                    try:
                        with store.trying():
                            store.add(2)
                            if inner:
                                raise KeyError
                    except KeyError:
                        pass
                    store.add(3)
                    if outer:
                        raise IndexError
            except IndexError:
                pass
            self.assertEqual((store.entries, store.changes), (entries, len(entries)))
            self.assertEqual(taken_back(store), [entries[:many] for many in range(len(entries) - 1, -1, -1)])

    def test_an_exception_that_leaves_both(self):
        store = filled(Store(CELLS), (0,))
        with self.assertRaises(KeyError):
            with store.trying():
                store.undo()
                with store.trying():
                    store.add(2)
                    raise KeyError
        self.assertEqual((store.entries, store.changes), ((0,), 1))
        self.assertEqual(taken_back(store), [()])

    def test_one_behind_another(self):
        store = Store(CELLS)
        for entry in (1, 2):
            with self.assertRaises(KeyError):
                with store.trying():
                    store.add(entry)
                    raise KeyError
            store.add(entry)
            with store.trying():
                store.add(0)
        self.assertEqual((store.entries, store.changes), ((1, 0, 2, 0), 4))
        self.assertEqual(taken_back(store), [(1, 0, 2), (1, 0), (1,), ()])

    def test_other_stores_are_left_alone(self):
        one, other = Store(CELLS), Store(CELLS)
        with self.assertRaises(KeyError):
            with one.trying():
                one.add(1)
                other.add(2)
                raise KeyError
        self.assertEqual((one.entries, other.entries, other.changes), ((), (2,), 1))


class Read(Case):
    def test_positions(self):
        store = filled(Store(CELLS), (3, 1, 3))
        self.assertEqual([store[0], store[1], store[2], len(store)], [3, 1, 3, 3])
        for thing in any_values() + [3, -1, -3, -4, (0,), [0]]:
            if not is_below(thing, 3):
                self.refuse(NoNumber, store.__getitem__, thing)
        with self.assertRaises(NoNumber):
            store[-1]
        with self.assertRaises(NoNumber):
            store[True]

    def test_positions_of_a_full_store(self):
        store = filled(Store(ONE_STATE), (0,) * 40)
        self.assertEqual(store[39], 0)
        self.refuse(NoNumber, store.__getitem__, 40)

    def test_what_is_one_of_the_entries(self):
        store = filled(Store(CELLS), (0, 1, 1))
        for thing in any_values():
            self.assertIs(thing in store, type(thing) is int and thing in (0, 1))
        self.assertIs(False in store, False)
        self.assertIs(True in store, False)
        for thing in spoiled(1):
            self.assertIs(thing in store, False)
        self.assertIs(2 in store, False)
        store.add(2)
        self.assertIs(2 in store, True)
        store.undo()
        self.assertIs(2 in store, False)

    def test_what_was_left_out_is_none_of_the_entries(self):
        store = filled(Thin(TURNS), (0, 1))
        self.assertIs(0 in store, False)
        self.assertIs(1 in store, True)

    def test_it_is_not_iterated_over(self):
        for store in (Store(CELLS), filled(Store(CELLS), (0, 1))):
            with self.assertRaises(TypeError):
                iter(store)

    def test_reading_changes_nothing(self):
        for made in CLASSES:
            store = filled(made(CALM), (1, 4), (2,))
            first = shown(store)
            self.assertEqual(shown(store), first)
            store.trying()
            self.assertEqual(shown(store), first)
            self.assertEqual(len(taken_back(store)), 2)


class Equal(Case):
    def test_same_class_system_and_entries(self):
        for made in CLASSES:
            self.assertTrue(made(CALM) == made(CALM))
            self.assertTrue(filled(made(CALM), (1, 5)) == filled(made(CALM), (1,), (5,)))
            self.assertFalse(filled(made(CALM), (1, 5)) != filled(made(CALM), (1,), (5,)))
            self.assertFalse(filled(made(CALM), (1,)) == filled(made(CALM), (5,)))
            self.assertFalse(filled(made(CALM), (1,)) == made(CALM))

    def test_equal_systems_that_are_other_objects(self):
        for made in CLASSES:
            self.assertIs(filled(made(made_anew(CALM)), (1, 5)) == filled(made(CALM), (1, 5)), True)
            self.assertIs(filled(made(made_anew(CALM)), (1, 5)) != filled(made(CALM), (1, 5)), False)

    def test_changes_do_not_count(self):
        one, other = filled(Store(CELLS), (0, 1)), filled(Store(CELLS), (3,), ())
        other.entries = (0, 1)
        self.assertTrue(one == other)
        other.undo()
        self.assertFalse(one == other)

    def test_other_entries(self):
        logs = [(), (0,), (1,), (0, 1), (1, 0), (0, 1, 0)]
        for one in logs:
            for other in logs:
                self.assertIs(filled(Store(CELLS), one) == filled(Store(CELLS), other), one == other)
                self.assertIs(filled(Store(CELLS), one) != filled(Store(CELLS), other), one != other)

    def test_other_classes(self):
        for one in CLASSES:
            for other in CLASSES:
                for log in ((), (3,)):
                    equal = filled(one(CALM), log) == filled(other(CALM), log)
                    self.assertIs(equal, one is other)
                    self.assertIs(filled(one(CALM), log) != filled(other(CALM), log), one is not other)

    def test_other_systems(self):
        others = [CELLS[:3] + ((None,) * 4,), (4, 1) + CELLS[2:], CELLS[:2] + (CELLS[2][::-1], CELLS[3])]
        for other in others:
            self.assertIs(filled(Store(other), (1,)) == filled(Store(CELLS), (1,)), False)
            self.assertIs(Thin(other) == Thin(CELLS), False)

    def test_another_limit_alone_makes_no_difference(self):
        for made in LIMITED:
            self.assertIs(made(CELLS, 3) == made(CELLS, 4), True)

    def test_equal_to_nothing_else(self):
        for made in CLASSES:
            store = filled(made(CALM), (1,))
            for thing in any_values() + [(1,), [1], CALM, repr(store), Effect.of(CALM, (1,)), store.trying()]:
                self.assertIs(store == thing, False)
                self.assertIs(thing == store, False)
                self.assertIs(store != thing, True)


    def test_a_class_of_the_same_name_is_another_one(self):
        for made in CLASSES:
            other = type(made.__name__, (), {"system": CALM, "entries": ()})()
            self.assertIs(made(CALM) == other, False)
            self.assertIs(other == made(CALM), False)


class Worded(Case):
    def test_for_one_and_for_several(self):
        for made in CLASSES:
            store = made(CALM)
            self.assertEqual(repr(store), f"{made.__name__}(0 entries)")
            store.add(5)
            self.assertEqual(repr(store), f"{made.__name__}(1 entries)")
            self.assertEqual(str(store), f"{made.__name__}(1 entries)")
            store.extend((0, 1))
            self.assertEqual(repr(store), f"{made.__name__}({len(store)} entries)")
        self.assertEqual(repr(filled(Store(CELLS), (0, 0, 0))), "Store(3 entries)")
        self.assertEqual(repr(filled(Thin(ROUND), (0, 0))), "Thin(2 entries)")
        self.assertEqual(repr(filled(LimitedThin(ROUND), (0,))), "LimitedThin(1 entries)")


class Classes(Case):
    def test_what_they_are(self):
        for made in CLASSES:
            self.assertIsInstance(made(CALM), Store)
        self.assertTrue(issubclass(LimitedThin, Limited) and issubclass(LimitedThin, Thin))
        self.assertFalse(issubclass(Limited, Thin) or issubclass(Thin, Limited))
        for made in (Compact, Once):
            self.assertFalse(issubclass(made, (Thin, Limited)))
            self.assertFalse(issubclass(LimitedThin, made))

    def test_the_limit_is_that_of_limited_stores_alone(self):
        for made in CLASSES:
            self.assertIs(hasattr(made(CALM), "most"), made in LIMITED)


class WrongInputs(Case):
    def test_no_system(self):
        for made in CLASSES:
            for thing in list(NO_SYSTEMS) + any_values() + list(spoiled(CALM)):
                self.refuse(NoSystem, made, thing)

    def test_no_system_comes_first(self):
        for made in LIMITED:
            for thing in NO_SYSTEMS:
                for most in (-1, 41, None, True, "5", []):
                    self.refuse(NoSystem, made, thing, most)

    def test_no_number(self):
        for made in LIMITED:
            for thing in any_values() + [-1, 41, 42, 9999999999999, (5,), [5], Store(CELLS)]:
                if not is_below(thing, 41):
                    self.refuse(NoNumber, made, CELLS, thing)
            for thing in (True, False):
                self.refuse(NoNumber, made, CELLS, thing)

    def test_not_right_exactly_where_the_kinds_are_not(self):
        for system in (TURNS, ONWARD, BETWEEN):
            self.refuse(NotRight, Compact, system)
        # The kinds would be wrong in states that are not reachable only.
        self.assertEqual(Compact(HIDDEN).entries, ())
        found = []
        for system in many_systems():
            found.append(fault(system) is None)
            if found[-1]:
                self.assertEqual(Compact(system).system, system)
            else:
                self.refuse(NotRight, Compact, system)
            self.assertIs(suits(Compact, system), found[-1])
        self.assertGreater(min(found.count(True), found.count(False)), 50)

    def test_not_steady_exactly_where_some_operation_is_not(self):
        for system in (CELLS, TURNS, ONWARD, BETWEEN, SLOW, ROUND, HIDDEN):
            self.refuse(NotSteady, Once, system)
        found = []
        for system in many_systems():
            found.append(repeat_fault(system) is None)
            if found[-1]:
                self.assertEqual(Once(system).system, system)
            else:
                self.refuse(NotSteady, Once, system)
            self.assertIs(suits(Once, system), found[-1])
        self.assertGreater(min(found.count(True), found.count(False)), 50)

    def test_the_other_classes_take_each_system(self):
        for system in many_systems():
            for made in (Store, Thin, Limited, LimitedThin):
                self.assertEqual(made(system).system, system)

    def each_store(self):
        """Stores with four operations, an empty one and one with entries of each class, some of them full."""
        calm = GREATER[:2] + (GREATER[2][:4], GREATER[3][:4])
        for made in CLASSES:
            yield made(calm)
            yield filled(made(calm), (3, 1))
        yield filled(Store(CELLS), (1,) * 40)
        yield Limited(CELLS, 0)
        yield filled(LimitedThin(ROUND[:2] + (ROUND[2] * 2, (None,) * 4), 2), (0, 1))

    def test_no_operation(self):
        for store in self.each_store():
            before = shown(store)
            for thing in any_values() + list(NO_OPERATIONS):
                if not is_below(thing, 4):
                    self.refuse(NoOperation, store.add, thing)
                    self.refuse(NoOperation, store, thing)
            self.assertEqual(shown(store), before)

    def test_no_log(self):
        for store in self.each_store():
            before = shown(store)
            logs = list(NO_LOGS) + package_objects() + list(spoiled((1, 0, 3))) + [(0,) * 41 + (4,), [0] * 41, (-1,)]
            for thing in logs + any_values():
                if type(thing) is tuple and all(is_below(part, 4) for part in thing):
                    continue
                self.refuse(NoLog, store.extend, thing)
                self.refuse(NoLog, store.assign_entries, thing)
                self.refuse(NoLog, setattr, store, "entries", thing)
            self.assertEqual(shown(store), before)
            self.assertEqual(len(taken_back(store)), before[3])

    def test_arguments_are_as_they_were(self):
        for made in CLASSES:
            store = made(CALM)
            for thing in any_values() + [(0, 1, 2), (5,), CALM, 5]:
                before = repr(thing)
                for call in (store.extend, store.assign_entries, store.add, store, store.__getitem__, made):
                    try:
                        call(thing)
                    except KindError:
                        pass
                    self.assertEqual(repr(thing), before)
                self.assertIs(type(thing in store), bool)
                self.assertIs(type(store == thing), bool)
                self.assertEqual(repr(thing), before)


class WhatHolds(Case):
    """[90]: states and operations may be numbered otherwise."""

    def test_states_and_operations_numbered_otherwise(self):
        dice = random.Random(77)
        for system in many_systems():
            names = dice.sample(range(system[0]), system[0])
            places = dice.sample(range(len(system[2])), len(system[2]))
            other = renumbered(system, names, places)
            for made in CLASSES:
                self.assertIs(suits(made, other), suits(made, system))
                if suits(made, system):
                    log = random_log(dice, system, 5)
                    one, two = made(system), made(other)
                    for entry in log:
                        one.add(entry)
                        two.add(places[entry])
                    self.assertEqual(two.entries, tuple([places[entry] for entry in one.entries]))
                    self.assertEqual((two.outcome, repr(two)), (names[one.outcome], repr(one)))


if __name__ == "__main__":
    unittest.main()
