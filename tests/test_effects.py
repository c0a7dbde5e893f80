"""Effects: [60], and [2] as far as it speaks of them."""

import random
import unittest

from lastofkind.effects import Effect
from lastofkind.errors import NoEffect, NoLog, NoMatch, NoMoves, NoNumber, NoState, NoSystem
from lastofkind.stores import Store
from lastofkind.systems import reachable

from tests.helpers import (
    CELLS, FIXED_SYSTEMS, GREATER, HIDDEN, LONELY, NO_LOGS, NO_SYSTEMS, ONE_STATE, ONWARD, ROUND, SWITCH, TURNS,
    all_logs, all_systems, any_values, come_to_the_same, is_below, made_anew, many_systems, package_objects,
    plain_reachable, random_log, renumbered, spoiled, walked, with_hidden_state,
)

MANY = 1000000000000
# Only state 1 is reachable; elsewhere the operations lead anywhere.
ALONE = (4, 1, ((1, 1, 0, 3), (3, 1, 1, 2)), (None, 8))


def plain_moves(system, log):
    return tuple([walked(system, state, log) for state in plain_reachable(system)])


def step_by_step(effect, state, many):
    """Where the effect leads so many times, by single steps up to the round in which they end."""
    way = [state]
    while effect(way[-1]) not in way:
        way.append(effect(way[-1]))
    first = way.index(effect(way[-1]))
    return way[many] if many < len(way) else way[first + (many - first) % (len(way) - first)]


def random_effect(dice, system):
    """An effect that perhaps no log has."""
    states = reachable(system)
    return Effect(system, tuple([dice.choice(states) for _ in states]))


class Made(unittest.TestCase):
    def test_examples(self):
        self.assertEqual(Effect.of(TURNS, (0,)).moves, (1, 2, 0))
        self.assertEqual(Effect.of(TURNS, (0, 0)).moves, (2, 0, 1))
        self.assertEqual(Effect.of(TURNS, (0, 1, 0)).moves, (1, 1, 1))
        self.assertEqual(Effect.of(CELLS, (1, 3)).moves, (3, 3, 3, 3))
        self.assertEqual(Effect.of(CELLS, (3,)).moves, (1, 1, 3, 3))

    def test_the_empty_log_and_a_long_one(self):
        self.assertEqual(Effect.of(TURNS, ()).moves, (0, 1, 2))
        self.assertEqual(Effect.of(TURNS, (0,) * 40).moves, (1, 2, 0))
        self.assertEqual(Effect.of(ROUND, (0,) * 3001).moves, (1, 2, 0))

    def test_properties(self):
        effect = Effect(CELLS, (3, 1, 0, 1))
        self.assertEqual(effect.system, CELLS)
        self.assertEqual(effect.moves, (3, 1, 0, 1))
        self.assertEqual(effect.fixed, (1,))
        self.assertIs(type(effect), Effect)
        self.assertIs(type(Effect.of(CELLS, ())), Effect)

    def test_the_properties_are_those_of_each_effect(self):
        one, other = Effect(CELLS, (0, 0, 0, 0)), Effect(TURNS, (2, 1, 0))
        self.assertEqual((one.system, one.moves, one.fixed), (CELLS, (0, 0, 0, 0), (0,)))
        self.assertEqual((other.system, other.moves, other.fixed), (TURNS, (2, 1, 0), (1,)))

    def test_reachable_states_alone(self):
        self.assertEqual(Effect.of(HIDDEN, (0,)).moves, (2, 2))
        self.assertEqual(Effect.of(HIDDEN, (1,)).moves, (3, 3))
        self.assertEqual(Effect.of(HIDDEN, ()).moves, (2, 3))
        self.assertEqual(Effect(HIDDEN, (3, 2)).fixed, ())
        self.assertEqual(Effect(HIDDEN, (3, 3)).fixed, (3,))
        for moves in ((2, 3, 2, 3), (0, 1), (2, 1), (0, 3), (2,), (2, 3, 3)):
            with self.assertRaises(NoMoves):
                Effect(HIDDEN, moves)

    def test_one_reachable_state(self):
        self.assertEqual(Effect(ONE_STATE, (0,)).moves, (0,))
        self.assertEqual(Effect.of(LONELY, (0, 5, 3)).moves, (0,))
        for log in ((), (0,), (1, 0, 1)):
            effect = Effect.of(ALONE, log)
            self.assertEqual((effect.moves, effect.fixed, effect(1)), ((1,), (1,), 1))
            self.assertEqual(repr(effect), "Effect(1 states, 1 fixed)")
        for moves in ((0,), (), (1, 1), (1, 1, 1, 1), (2,)):
            with self.assertRaises(NoMoves):
                Effect(ALONE, moves)

    def test_fixed_with_none_some_and_all(self):
        self.assertEqual(Effect.of(TURNS, (0,)).fixed, ())
        self.assertEqual(Effect.of(TURNS, (1,)).fixed, (0,))
        self.assertEqual(Effect.of(TURNS, ()).fixed, (0, 1, 2))
        self.assertEqual(Effect.of(GREATER, (3,)).fixed, (3, 4, 5))
        self.assertEqual(Effect.of(SWITCH, (5,)).fixed, (0, 1, 2, 3, 4, 5))
        self.assertEqual(Effect(SWITCH, (0, 2, 1, 3, 5, 4)).fixed, (0, 3))

    def test_held_against_runs_from_each_reachable_state(self):
        dice = random.Random(60)
        for system in all_systems():
            states = plain_reachable(system)
            for log in [random_log(dice, system, most) for most in (40, 6, 3)]:
                effect = Effect.of(system, log)
                self.assertEqual(effect.system, system)
                self.assertEqual(effect.moves, plain_moves(system, log))
                self.assertEqual([effect(state) for state in states], [walked(system, state, log) for state in states])
                fixed = [state for state in states if walked(system, state, log) == state]
                self.assertEqual(effect.fixed, tuple(fixed))
                self.assertEqual(repr(effect), f"Effect({len(states)} states, {len(fixed)} fixed)")
                self.assertEqual(Effect(system, effect.moves), effect)

    def test_moves_that_no_log_makes(self):
        effect = Effect(ONWARD, (2, 1, 0))
        self.assertEqual((effect(0), effect(1), effect(2), effect.fixed), (2, 1, 0, (1,)))
        dice = random.Random(61)
        for system in many_systems():
            states = plain_reachable(system)
            moves = tuple([dice.choice(states) for _ in states])
            self.assertEqual(Effect(system, moves).moves, moves)

    def test_kinds_of_results(self):
        effect = Effect.of(CELLS, (0,))
        self.assertIs(type(effect.moves), tuple)
        self.assertIs(type(effect.fixed), tuple)
        self.assertIs(type(effect.system), tuple)
        self.assertIs(type(effect(3)), int)
        for made in (effect + effect, effect * 3, Effect.joined((effect,)), Effect.of(CELLS, ())):
            self.assertIs(type(made), Effect)


class Sums(unittest.TestCase):
    def test_first_the_one_then_the_other(self):
        on, back = Effect.of(TURNS, (0,)), Effect.of(TURNS, (1,))
        self.assertEqual((on + back).moves, (0, 0, 0))
        self.assertEqual((back + on).moves, (1, 1, 1))
        self.assertEqual((on + on).moves, (2, 0, 1))
        self.assertEqual((on + on + on).moves, (0, 1, 2))

    def test_it_is_what_both_logs_do(self):
        dice = random.Random(62)
        for system in all_systems():
            one, other = random_log(dice, system, 8), random_log(dice, system, 8)
            found = Effect.of(system, one) + Effect.of(system, other)
            self.assertEqual(found.moves, plain_moves(system, one + other))
            self.assertEqual(found, Effect.of(system, one + other))
            self.assertEqual(found.system, system)

    def test_effects_that_no_log_has(self):
        dice = random.Random(63)
        for system in many_systems():
            one, other = random_effect(dice, system), random_effect(dice, system)
            self.assertEqual((one + other).moves, tuple([other(one(state)) for state in reachable(system)]))
            self.assertEqual(Effect.joined((one, other, one)), one + other + one)

    def test_states_that_are_not_reachable_do_not_count(self):
        one, other = Effect(HIDDEN, (3, 2)), Effect(HIDDEN, (2, 2))
        self.assertEqual(((one + other).moves, (other + one).moves), ((2, 2), (3, 3)))
        self.assertEqual((one + one).moves, (2, 3))

    def test_the_effects_stay_as_they_were(self):
        one, other = Effect(TURNS, (1, 1, 0)), Effect(TURNS, (2, 0, 0))
        first = one + other
        self.assertEqual((one.moves, other.moves), ((1, 1, 0), (2, 0, 0)))
        self.assertEqual(one + other, first)
        added = one
        added += other
        self.assertEqual((added, one.moves), (first, (1, 1, 0)))

    def test_no_effect(self):
        effect = Effect.of(CELLS, (0,))
        for thing in any_values():
            if not isinstance(thing, Effect):
                with self.assertRaises(NoEffect) as caught:
                    effect + thing
                self.assertIs(type(caught.exception), NoEffect)
                with self.assertRaises(NoEffect) as caught:
                    thing + effect
                self.assertIs(type(caught.exception), NoEffect)

    def test_no_match(self):
        effect = Effect.of(CELLS, (0,))
        others = [TURNS, CELLS[:3] + ((1, 1, 0, 0),), (4, 1) + CELLS[2:], CELLS[:2] + (CELLS[2][::-1], CELLS[3])]
        for other in others:
            for left, right in ((effect, Effect.of(other, (0,))), (Effect.of(other, ()), effect)):
                with self.assertRaises(NoMatch) as caught:
                    left + right
                self.assertIs(type(caught.exception), NoMatch)


class Times(unittest.TestCase):
    def test_examples(self):
        on = Effect.of(TURNS, (0,))
        self.assertEqual([(on * many).moves for many in range(5)], [
            (0, 1, 2), (1, 2, 0), (2, 0, 1), (0, 1, 2), (1, 2, 0),
        ])
        self.assertEqual((on * MANY).moves, (1, 2, 0))
        self.assertEqual((on * (MANY - 1)).moves, (0, 1, 2))
        self.assertEqual((Effect(ONWARD, (1, 2, 2)) * MANY).moves, (2, 2, 2))

    def test_not_at_all_and_once(self):
        dice = random.Random(64)
        for system in many_systems():
            effect = random_effect(dice, system)
            self.assertEqual((effect * 0).moves, reachable(system))
            self.assertEqual((effect * 0).fixed, reachable(system))
            self.assertEqual(effect * 0, Effect.of(system, ()))
            self.assertEqual(effect * 1, effect)

    def test_it_is_a_sum(self):
        dice = random.Random(65)
        for system in many_systems():
            effect = random_effect(dice, system)
            total = effect * 0
            for many in range(20):
                self.assertEqual(effect * many, total)
                total = total + effect

    def test_many_times(self):
        dice = random.Random(66)
        for system in many_systems():
            effect = random_effect(dice, system)
            for many in (MANY, MANY - 1, MANY // 2, 999999999989, 40, dice.randrange(MANY)):
                found = effect * many
                self.assertEqual(found.moves, tuple([step_by_step(effect, at, many) for at in reachable(system)]))

    def test_the_effect_stays_as_it_was(self):
        effect = Effect(SWITCH, (1, 2, 3, 4, 5, 0))
        first = effect * 4
        self.assertEqual((effect.moves, first.moves), ((1, 2, 3, 4, 5, 0), (4, 5, 0, 1, 2, 3)))
        self.assertEqual(effect * 4, first)

    def test_no_number(self):
        effect = Effect.of(CELLS, (0,))
        for thing in any_values() + [MANY + 1, -1, -MANY, effect, (2,), [2], "2"]:
            if not is_below(thing, MANY + 1):
                with self.assertRaises(NoNumber) as caught:
                    effect * thing
                self.assertIs(type(caught.exception), NoNumber)

    def test_bools_are_no_numbers(self):
        for thing in (True, False):
            with self.assertRaises(NoNumber):
                Effect.of(CELLS, (0,)) * thing


class Called(unittest.TestCase):
    def test_no_state(self):
        for thing in any_values() + [-1, 4, 5, -4]:
            if not is_below(thing, 4):
                with self.assertRaises(NoState) as caught:
                    Effect.of(CELLS, (0,))(thing)
                self.assertIs(type(caught.exception), NoState)

    def test_states_that_are_not_reachable(self):
        effect = Effect(HIDDEN, (3, 2))
        self.assertEqual((effect(2), effect(3)), (3, 2))
        for thing in (0, 1, 4, True, False, -1):
            with self.assertRaises(NoState):
                effect(thing)
        for thing in (0, True, 2, 3):
            with self.assertRaises(NoState):
                Effect(ALONE, (1,))(thing)


class Joined(unittest.TestCase):
    def test_one(self):
        for system in FIXED_SYSTEMS:
            effect = Effect.of(system, (0,))
            self.assertEqual(Effect.joined((effect,)), effect)

    def test_several(self):
        on, back = Effect.of(TURNS, (0,)), Effect.of(TURNS, (1,))
        self.assertEqual(Effect.joined((on, on)).moves, (2, 0, 1))
        self.assertEqual(Effect.joined((on, back, on)).moves, (1, 1, 1))
        self.assertEqual(Effect.joined((on, back)).moves, (0, 0, 0))
        self.assertEqual(Effect.joined((on,) * 601).moves, (1, 2, 0))

    def test_it_is_what_the_logs_do_one_after_another(self):
        dice = random.Random(67)
        for system in many_systems():
            logs = [random_log(dice, system, 4) for _ in range(dice.randrange(1, 6))]
            found = Effect.joined(tuple([Effect.of(system, log) for log in logs]))
            self.assertEqual(found.moves, plain_moves(system, sum(logs, ())))
            self.assertEqual(found.system, system)

    def test_off_an_effect(self):
        on = Effect.of(TURNS, (0,))
        self.assertEqual(on.joined((on, on)), on * 2)
        self.assertEqual(on.of(TURNS, (1,)).moves, (0, 0, 0))

    def test_the_effects_stay_as_they_were(self):
        effects = (Effect(TURNS, (1, 1, 0)), Effect(TURNS, (2, 0, 0)))
        first = Effect.joined(effects)
        self.assertEqual([effect.moves for effect in effects], [(1, 1, 0), (2, 0, 0)])
        self.assertEqual(Effect.joined(effects), first)

    def test_no_effect(self):
        effect = Effect.of(CELLS, (0,))
        wrong = [(), [effect], effect, {0: effect}, (effect, None), (None, effect), (effect, (effect,)), ((effect,),)]
        wrong += [(thing,) for thing in any_values() if not isinstance(thing, Effect)]
        wrong += [(effect, thing) for thing in any_values() if not isinstance(thing, Effect)]
        wrong += [thing for thing in any_values() if thing != (Effect(TURNS, (0, 0, 0)),) * 3]
        for thing in wrong:
            with self.assertRaises(NoEffect) as caught:
                Effect.joined(thing)
            self.assertIs(type(caught.exception), NoEffect)

    def test_no_match(self):
        one, other, last = Effect.of(CELLS, ()), Effect.of(TURNS, ()), Effect.of(CELLS[:3] + ((None,) * 4,), ())
        rows = [(one, other), (other, one), (one, one, other), (one, other, one), (one, last), (last, one, one)]
        for effects in rows:
            with self.assertRaises(NoMatch) as caught:
                Effect.joined(effects)
            self.assertIs(type(caught.exception), NoMatch)

    def test_what_is_no_effect_is_told_before_other_systems(self):
        one, other = Effect.of(CELLS, ()), Effect.of(TURNS, ())
        for effects in ((one, other, None), (one, 0, other), (Store(CELLS), one, other), [one, other]):
            with self.assertRaises(NoEffect) as caught:
                Effect.joined(effects)
            self.assertIs(type(caught.exception), NoEffect)


class Equal(unittest.TestCase):
    def test_equal_effects_of_different_logs(self):
        self.assertEqual(Effect.of(TURNS, (0, 1)), Effect.of(TURNS, (1,)))
        self.assertEqual(Effect.of(TURNS, (0, 0, 0)), Effect(TURNS, (0, 1, 2)))
        self.assertEqual(Effect.of(CELLS, (0, 2, 1)), Effect.of(CELLS, (1, 2)))
        self.assertFalse(Effect.of(CELLS, (1, 2)) != Effect.of(CELLS, (2, 1)))

    def test_equal_systems_that_are_other_objects(self):
        one, other = Effect(CELLS, (1, 1, 3, 3)), Effect(made_anew(CELLS), made_anew((1, 1, 3, 3)))
        self.assertIs(one == other, True)
        self.assertIs(one != other, False)
        self.assertEqual((one + other).moves, (1, 1, 3, 3))
        self.assertEqual(Effect.joined((one, other, one)).moves, (1, 1, 3, 3))

    def test_other_moves(self):
        self.assertNotEqual(Effect.of(TURNS, (0,)), Effect.of(TURNS, (0, 0)))
        self.assertFalse(Effect.of(TURNS, ()) == Effect.of(TURNS, (1,)))

    def test_other_systems(self):
        effect = Effect.of(CELLS, (0,))
        others = [CELLS[:3] + ((None,) * 4,), (4, 1) + CELLS[2:], CELLS[:2] + (CELLS[2] + ((0,) * 4,), (0, 0, 1, 1, 2))]
        for other in others:
            self.assertEqual(Effect.of(other, (0,)).moves, effect.moves)
            self.assertFalse(Effect.of(other, (0,)) == effect)
            self.assertTrue(Effect.of(other, (0,)) != effect)

    def test_exactly_if_the_logs_come_to_the_same(self):
        for system in FIXED_SYSTEMS:
            logs = list(all_logs(system, 3))[:30]
            for one in logs:
                for other in logs:
                    same = come_to_the_same(system, one, other)
                    self.assertIs(Effect.of(system, one) == Effect.of(system, other), same)
                    self.assertIs(Effect.of(system, one) != Effect.of(system, other), not same)

    def test_equal_to_nothing_else(self):
        effect = Effect(TURNS, (2, 2, 1))
        for thing in any_values() + [(TURNS, (2, 2, 1)), (2, 2, 1), TURNS, "Effect(3 states, 0 fixed)", repr(effect)]:
            self.assertIs(effect == thing, False)
            self.assertIs(thing == effect, False)
            self.assertIs(effect != thing, True)


class Worded(unittest.TestCase):
    def test_for_one_and_for_several(self):
        self.assertEqual(repr(Effect(CELLS, (0, 0, 0, 0))), "Effect(4 states, 1 fixed)")
        self.assertEqual(repr(Effect(CELLS, (0, 1, 0, 3))), "Effect(4 states, 3 fixed)")
        self.assertEqual(repr(Effect(TURNS, (1, 2, 0))), "Effect(3 states, 0 fixed)")
        self.assertEqual(repr(Effect(ONE_STATE, (0,))), "Effect(1 states, 1 fixed)")
        self.assertEqual(repr(Effect(HIDDEN, (3, 2))), "Effect(2 states, 0 fixed)")
        self.assertEqual(str(Effect.of(SWITCH, ())), "Effect(6 states, 6 fixed)")


class WrongInputs(unittest.TestCase):
    def test_no_system(self):
        for thing in NO_SYSTEMS:
            for second in ((0, 1, 2, 3), (), None, (9,), [0]):
                with self.assertRaises(NoSystem) as caught:
                    Effect(thing, second)
                self.assertIs(type(caught.exception), NoSystem)
                with self.assertRaises(NoSystem) as caught:
                    Effect.of(thing, second)
                self.assertIs(type(caught.exception), NoSystem)

    def test_no_moves(self):
        for thing in any_values() + list(spoiled((3, 0, 2, 1))):
            if type(thing) is tuple and len(thing) == 4 and all(is_below(part, 4) for part in thing):
                continue
            with self.assertRaises(NoMoves) as caught:
                Effect(CELLS, thing)
            self.assertIs(type(caught.exception), NoMoves)

    def test_bools_are_no_states(self):
        for moves in ((True, 0, 0, 0), (0, False, 0, 0), (0, 1, 2, True)):
            with self.assertRaises(NoMoves):
                Effect(CELLS, moves)
        with self.assertRaises(NoMoves):
            Effect(ONE_STATE, (False,))
        with self.assertRaises(NoMoves):
            Effect(ALONE, (True,))

    def test_no_log(self):
        for thing in NO_LOGS + tuple(package_objects()):
            with self.assertRaises(NoLog) as caught:
                Effect.of(CELLS, thing)
            self.assertIs(type(caught.exception), NoLog)


class WhatHolds(unittest.TestCase):
    """[90]: states and operations may be numbered otherwise; states that are not reachable never matter."""

    def test_states_and_operations_numbered_otherwise(self):
        dice = random.Random(68)
        for system in many_systems():
            names = dice.sample(range(system[0]), system[0])
            places = dice.sample(range(len(system[2])), len(system[2]))
            other = renumbered(system, names, places)
            log = random_log(dice, system, 6)
            one, two = Effect.of(system, log), Effect.of(other, tuple([places[entry] for entry in log]))
            for state in reachable(system):
                self.assertEqual(two(names[state]), names[one(state)])
                self.assertEqual((two * 7)(names[state]), names[(one * 7)(state)])
            self.assertEqual(sorted(two.fixed), sorted([names[state] for state in one.fixed]))
            self.assertEqual(repr(one), repr(two))

    def test_one_more_state_that_is_not_reachable(self):
        dice = random.Random(69)
        for system in [one for one in many_systems() if one[0] < 6]:
            other, names = with_hidden_state(dice, system)
            log = random_log(dice, system, 6)
            one, two = Effect.of(system, log), Effect.of(other, log)
            self.assertEqual([two(names[state]) for state in reachable(system)], [
                names[one(state)] for state in reachable(system)
            ])
            self.assertEqual(repr(one), repr(two))


if __name__ == "__main__":
    unittest.main()
