"""Systems, values and plain second ways to the results, for the tests."""

import itertools
import random

from lastofkind import errors
from lastofkind.effects import Effect
from lastofkind.stores import Compact, Limited, LimitedThin, Once, Store, Thin

CELLS = (4, 0, ((0, 1, 0, 1), (2, 3, 2, 3), (0, 0, 2, 2), (1, 1, 3, 3)), (0, 0, 1, 1))
TURNS = (3, 0, ((1, 2, 0), (0, 0, 0)), (0, 0))
# A place from 0 to 2 (kind 7), a switch that adds 3 (kind 9), and an operation that does nothing.
SWITCH = (
    6, 2,
    ((0, 0, 0, 3, 3, 3), (1, 1, 1, 4, 4, 4), (2, 2, 2, 5, 5, 5), (0, 1, 2, 0, 1, 2), (3, 4, 5, 3, 4, 5),
     (0, 1, 2, 3, 4, 5)),
    (7, 7, 7, 9, 9, None),
)
# The states 0 and 1 cannot be reached from the start; the kinds would be wrong there.
HIDDEN = (4, 3, ((1, 0, 2, 2), (0, 0, 3, 3)), (0, 0))
ONE_STATE = (1, 0, ((0,),), (0,))
LONELY = (1, 0, ((0,), (0,), (0,), (0,), (0,), (0,)), (None, 0, 9, 0, None, 3))
# One operation that goes on to the end and stays there: (f, f) is not (f,).
ONWARD = (3, 0, ((1, 2, 2),), (4,))
# Operation 0 sets the first of two cells, operation 1 copies it into the second one: only (0, 1, 0) tells.
BETWEEN = (4, 0, ((1, 1, 3, 3), (0, 3, 0, 3)), (0, None))

# Only four steps of operation 0 bring what operation 1 did to where operation 2 tells it.
SLOW = (6, 0, ((1, 2, 3, 4, 5, 5), (0, 0, 2, 3, 4, 5), (0, 0, 0, 0, 0, 5)), (None, 0, 1))
# Operation k leads to the greater one of the state and k: each covers itself and those below it.
GREATER = (6, 0, tuple(tuple(max(state, least) for state in range(6)) for least in range(6)), (0, 1, 2, 3, 4, 5))
# Turns to and fro: the order never matters, but nothing may be done twice or left out.
ROUND = (3, 1, ((1, 2, 0), (2, 0, 1)), (None, None))

FIXED_SYSTEMS = (CELLS, TURNS, SWITCH, HIDDEN, ONE_STATE, LONELY, ONWARD, BETWEEN, SLOW, GREATER, ROUND)

# Values that are no systems, and for the system CELLS no positions of operations and no logs.
NO_SYSTEMS = ((4, 0, CELLS[2], (0, 0, 1)), list(CELLS), None, True, 0, "", (), {}, (CELLS,), CELLS + (None,))
NO_OPERATIONS = (4, -1, None, True, False, "0", "", (0,), [0], [], (), {}, {0: 0}, CELLS, 9999999999999, -4)
NO_LOGS = ((4,), (-1,), [0], [], None, 0, "", "0", (0, True), (False,), (None,), ((0,),), {}, {0: 0}, (0, 1, [2]))


def all_logs(system, most):
    """All logs with at most so many entries, in order."""
    for many in range(most + 1):
        yield from itertools.product(range(len(system[2])), repeat=many)


def walked(system, state, log):
    for entry in log:
        state = system[2][entry][state]
    return state


def plain_reachable(system):
    """The reachable states, by going on from what is known until nothing is new."""
    known = {system[1]}
    for _ in range(system[0]):
        known = known | {operation[state] for operation in system[2] for state in known}
    return sorted(known)


def plain_compacted(system, log):
    """Each entry is left out if a later one is of its kind, straight from the words."""
    kept = []
    for at, entry in enumerate(log):
        kind = system[3][entry]
        later = [system[3][other] for other in log[at + 1:]]
        if kind is None or kind not in later:
            kept.append(entry)
    return tuple(kept)


def fault_logs(system):
    """All logs of the forms (f, g) and (f, x, g), in order."""
    kinds = system[3]
    entries = range(len(kinds))
    same = [(f, g) for f in entries for g in entries if kinds[f] is not None and kinds[f] == kinds[g]]
    between = [(f, x, g) for f, g in same for x in entries if kinds[x] is None or kinds[x] != kinds[f]]
    return sorted(same) + sorted(between)


def plain_faults(system):
    """All faults: each reachable state with each log that does not hold there, in order."""
    return [
        (state, log) for state in plain_reachable(system) for log in fault_logs(system)
        if walked(system, state, log) != walked(system, state, log[1:])
    ]


def is_plainly_changed(system, log):
    start = system[1]
    return walked(system, start, log) != walked(system, start, plain_compacted(system, log))


def tiny_systems():
    """All systems of two states with two operations, and all of three states with one, with some kinds."""
    twos = list(itertools.product(range(2), repeat=2))
    for one, other in itertools.product(twos, repeat=2):
        for kinds in ((0, 0), (0, 1), (0, None), (None, None)):
            yield 2, 0, (one, other), kinds
            yield 2, 1, (one, other), kinds
    for only in itertools.product(range(3), repeat=3):
        yield 3, 0, (only,), (5,)
        yield 3, 2, (only,), (None,)


def random_systems(many, seed):
    """Systems of all sizes; constants and operations that do nothing make right kinds likely enough."""
    dice = random.Random(seed)
    for at in range(many):
        states = 1 + at % 6
        amount = 1 + at // 6 % 6
        operations = tuple(random_operation(dice, states) for _ in range(amount))
        kinds = tuple(dice.choice((None, 0, 0, 1, 9)) for _ in range(amount))
        yield states, dice.randrange(states), operations, kinds


def random_operation(dice, states):
    form = dice.randrange(4)
    if form == 0:
        return (dice.randrange(states),) * states
    if form == 1:
        return tuple(range(states))
    return tuple(dice.randrange(states) for _ in range(states))


def slow_systems(many, seed):
    """Systems of 2 to 6 states and operations, in which a log between often needs entries to tell."""
    dice = random.Random(seed)
    for at in range(many):
        states = 2 + at % 5
        amount = 2 + at // 5 % 5
        operations = tuple(slow_operation(dice, states) for _ in range(amount))
        yield states, dice.randrange(states), operations, tuple(dice.choice((None, 0, 1)) for _ in range(amount))


def slow_operation(dice, states):
    """An operation that changes one state only, tells one state from all others, or goes on along a row of them."""
    form = dice.randrange(3)
    place = dice.randrange(states)
    if form == 0:
        return tuple(dice.randrange(states) if state == place else state for state in range(states))
    if form == 1:
        one, other = dice.randrange(states), dice.randrange(states)
        return tuple(one if state == place else other for state in range(states))
    row = dice.sample(range(states), states)
    return tuple(row[min(row.index(state) + 1, states - 1)] for state in range(states))


def made_anew(value):
    """An equal value of tuples, integers and None that is another object, as all of its tuples are."""
    return tuple([made_anew(part) for part in value]) if isinstance(value, tuple) else value


def random_log(dice, system, most=40):
    return tuple(dice.randrange(len(system[2])) for _ in range(dice.randrange(most + 1)))


def many_systems():
    return list(FIXED_SYSTEMS) + list(tiny_systems()) + list(random_systems(288, seed=7))


def all_systems():
    return many_systems() + list(slow_systems(300, seed=5))


def first_maps(system, most):
    """What each log of at most so many entries does from each state, with the first log that does it, in order."""
    found = {}
    for log in all_logs(system, most):
        found.setdefault(tuple(walked(system, state, log) for state in range(system[0])), log)
    return found


def plain_uncovered(system, first, second, maps):
    """The first log between, of all of those, that tells that second does not cover first, or None."""
    early, late = system[2][first], system[2][second]
    for moves, log in maps.items():
        for state in plain_reachable(system):
            if late[moves[early[state]]] != late[moves[state]]:
                return log
    return None


def plain_coverage(system):
    """The rows of coverage, by all logs of at most four entries."""
    maps = first_maps(system, 4)
    entries = range(len(system[2]))
    return [[plain_uncovered(system, first, second, maps) is None for second in entries] for first in entries]


def plain_thinned(rows, log):
    """Each entry is left out if some later one covers it, straight from the words."""
    return tuple([
        entry for at, entry in enumerate(log) if not any([rows[entry][later] for later in log[at + 1:]])
    ])


def plain_firsts(log):
    """Each entry is left out if it stands earlier already, straight from the words."""
    return tuple([entry for at, entry in enumerate(log) if entry not in log[:at]])


def come_to_the_same(system, one, other):
    return all(walked(system, state, one) == walked(system, state, other) for state in plain_reachable(system))


def with_hidden_state(dice, system):
    """The system with one more state, the last one or another one, that is not reachable and leads anywhere."""
    states, start, operations, kinds = system
    wider = tuple(operation + (dice.randrange(states + 1),) for operation in operations)
    place = dice.randrange(states + 1)
    names = [name for name in range(states + 1) if name != place] + [place]
    return renumbered((states + 1, start, wider, kinds), names, list(range(len(operations)))), names


def renumbered(system, names, places):
    """The system with names[k] for each state k, and with operation k at places[k]."""
    states, start, operations, kinds = system
    moved = [None] * len(operations)
    sorts = [None] * len(operations)
    for at, operation in enumerate(operations):
        row = [None] * states
        for state, target in enumerate(operation):
            row[names[state]] = names[target]
        moved[places[at]] = tuple(row)
        sorts[places[at]] = kinds[at]
    return states, names[start], tuple(moved), tuple(sorts)


def is_below(thing, many):
    """Whether this is an integer, no bool, of those from 0 that are below many."""
    return type(thing) is int and 0 <= thing < many


def nested(kind, depth):
    value = kind()
    for _ in range(depth):
        value = [value] if kind is list else (value,) if kind is tuple else {0: value}
    return value


def filled(store, *logs):
    """The store, with these logs put at its end."""
    for log in logs:
        store.extend(log)
    return store


def package_objects():
    """Objects of the package, exceptions apart, made anew."""
    return [
        Effect(CELLS, (0, 1, 2, 3)), Effect.of(CELLS, (1, 2)), Effect.of(TURNS, ()),
        Store(CELLS), filled(Store(CELLS), (0,), (1, 2, 3)), filled(Compact(CELLS), (1, 2, 0)),
        filled(Thin(CELLS), (1, 2)), filled(Once(GREATER), (1, 2, 1)), filled(Limited(CELLS), (0, 0)),
        filled(LimitedThin(CELLS, 2), (0, 2)), Store(CELLS).trying(),
    ]


def any_values():
    """Values of each kind that may come as an argument, made anew."""
    return plain_values() + package_objects() + [
        (Effect.of(CELLS, (0,)), 0), [Effect.of(CELLS, ())], {0: Store(CELLS)}, (Store(CELLS),), (0, Store(CELLS)),
        (0, (0, Effect.of(TURNS, (0,)))), (filled(Store(TURNS), (0,)), (0, 0)), (Effect(TURNS, (0, 0, 0)),) * 3,
        [filled(Limited(CELLS), (0, 1)), filled(Thin(CELLS), (0, 1))], (filled(Store(CELLS), (0, 0)),) * 4,
    ]


def plain_values():
    """Those without the objects that have methods."""
    return [
        None, True, False, 0, 1, -1, 2, 3, 4, 5, 6, 7, -7, 40, 9999999999999, -9999999999999,
        "", "0", "None", "0123", "x" * 600, "line\nfeed", "{}", "(4, 0)",
        [], (), {}, [0], [0, 1], [None], {0: 0}, {0: 1, 1: 0}, {"states": 4},
        [(0, 0)], {(0, 1): (1, 0)}, (None,), ("0",), ([],), ((),), ({},), ((0,),), ([0],), (0, (0, 0), 0),
        (True,), (False, 1), (0, -1), (0, 9999999999999), (0, "1"), (0, None), (0, [1]), (0, [0, 0]), (0, {}),
        nested(list, 10), nested(tuple, 10), nested(dict, 10),
        [0] * 2000, ("0",) * 2000, (None,) * 2000, (True,) * 2000, {number: number for number in range(1000)},
        tuple([(0, 0)] * 600), (-1,) * 2000,
        errors.KindError(), errors.NoSystem(), errors.TooMany(41, 40), (errors.NoLog(), 0), [errors.NoState()],
    ]


def spoiled(value):
    """Values that differ from this one, of tuples, integers and None, in one thing; put for a system, none is one."""
    if isinstance(value, tuple):
        yield list(value)
        yield dict(enumerate(value))
        yield str(value)
        if value:
            yield value[:-1]
            yield value[1:]
            yield value + value[-1:]
            yield value + value
        yield value + (None,)
        for at, part in enumerate(value):
            for other in spoiled(part):
                yield value[:at] + (other,) + value[at + 1:]
    elif value is None:
        yield from (False, True, "", "None", (), [], {})
    else:
        yield from (bool(value), not value, str(value), -1 - value, (value,), [value], {value: value})
        yield from (9999999999999, errors.TooMany(value, value), Effect.of(CELLS, (0,)), Store(CELLS))
