"""Covering: leaving out each entry of a log that a later entry makes needless, whatever stands between."""

from lastofkind.systems import apart, check_log, check_operation, check_system, is_log, reachable


def fresh_pairs(operation, pairs, seen):
    """Return the pairs, each once, to which an operation leads from some pairs and which were not seen before."""
    found = {(operation[one], operation[other]): True for one, other in pairs}
    return [pair for pair in found if pair not in seen]


def first_log_between(system, pairs, wanted):
    """Return the first log, in order, that leads from one of some pairs of states to a wanted pair, or None."""
    seen = {pair: True for pair in pairs}
    waiting = [((), pairs)]
    # Pairs with the same first log wait together. If they went on one by one, a pair could be found by a later log
    # of one of them before an earlier log of the next one leads to it.
    while waiting:
        log, group = waiting.pop(0)
        if any([pair in wanted for pair in group]):
            return log
        for entry, operation in enumerate(system[2]):
            fresh = fresh_pairs(operation, group, seen)
            for pair in fresh:
                seen[pair] = True
            if fresh:
                waiting.append((log + (entry,), fresh))
    return None


def telling_log(system, reached, first, second):
    """Return the first log between that tells at a state that is reached that second does not cover first, or None."""
    early = system[2][first]
    late = system[2][second]
    states = range(system[0])
    # A pair holds the state that is come to with the operation first, and the one without it.
    pairs = [(early[state], state) for state in reached]
    unlike = [(one, other) for one in states for other in states if late[one] != late[other]]
    return first_log_between(system, pairs, unlike)


def uncovered(system, first, second):
    """Return None if the operation second covers the operation first, otherwise the first log between that tells."""
    check_system(system)
    check_operation(system, first)
    check_operation(system, second)
    return telling_log(system, reachable(system), first, second)


def shows_uncovered(system, first, second, thing):
    """Tell of any value whether it shows that second covers first, or is a log between that tells the opposite."""
    check_system(system)
    check_operation(system, first)
    check_operation(system, second)
    if thing is None:
        return uncovered(system, first, second) is None
    if not is_log(system, thing):
        return False
    behind = thing + (second,)
    return apart(system, (first,) + behind, behind) is not None


def coverage_row(system, reached, first):
    """Return a tuple that tells of each operation whether it covers the operation first."""
    return tuple([telling_log(system, reached, first, second) is None for second in range(len(system[2]))])


def coverage(system):
    """Return a row for each operation, which tells of each operation whether it covers that of the row."""
    reached = reachable(system)
    return tuple([coverage_row(system, reached, first) for first in range(len(system[2]))])


def best_kinds(system):
    """Return the greatest right kinds, numbered in the order of their first operations."""
    table = coverage(system)
    numbers = {}
    kinds = []
    for entry, row in enumerate(table):
        if row[entry]:
            alike = [other for other, covers in enumerate(row) if covers and table[other][entry]]
            kinds.append(numbers.setdefault(alike[0], len(numbers)))
        else:
            kinds.append(None)
    return tuple(kinds)


def is_covered(row, last, at):
    """Tell whether some operation that covers that of the row stands last behind a position."""
    return any([row[entry] and last[entry] > at for entry in last])


def thinned(system, log):
    """Return a log without the entries that some later entry of it covers."""
    check_system(system)
    check_log(system, log)
    table = coverage(system)
    last = {entry: at for at, entry in enumerate(log)}
    return tuple([entry for at, entry in enumerate(log) if not is_covered(table[entry], last, at)])
