"""Compacting: leaving out all entries of a log but the last one of each kind."""

from lastofkind.systems import check_log, check_system, end_of, is_log, is_place, outcome, path, reachable


def compacted(system, log):
    """Return a log without the entries with a kind of which a later entry is, too."""
    check_system(system)
    check_log(system, log)
    kinds = system[3]
    last = {kinds[entry]: at for at, entry in enumerate(log)}
    return tuple([entry for at, entry in enumerate(log) if kinds[entry] is None or last[kinds[entry]] == at])


def has_form(kinds, log):
    """Tell whether a log of two or three entries begins and ends with one kind, without it between."""
    kind = kinds[log[0]]
    if kind is None or kinds[log[-1]] != kind:
        return False
    return len(log) == 2 or kinds[log[1]] != kind


def telling_logs(system):
    """Return all logs that tell whether the kinds of a system are right, in order."""
    kinds = system[3]
    entries = range(len(kinds))
    pairs = [(first, last) for first in entries for last in entries]
    triples = [(first, between, last) for first in entries for between in entries for last in entries]
    return [log for log in pairs + triples if has_form(kinds, log)]


def is_fault_at(system, state, log):
    """Tell whether a telling log leads from a state elsewhere than it does without its first entry."""
    return end_of(system, state, log) != end_of(system, state, log[1:])


def fault(system):
    """Return None if the kinds are right, otherwise the least state with its first telling log."""
    check_system(system)
    logs = telling_logs(system)
    for state in reachable(system):
        for log in logs:
            if is_fault_at(system, state, log):
                return state, log
    return None


def shows_fault(system, thing):
    """Tell of any value whether it shows that the kinds are right, or a fault of them."""
    check_system(system)
    if thing is None:
        return fault(system) is None
    if not isinstance(thing, tuple) or len(thing) != 2:
        return False
    state, log = thing
    if not is_place(state, system[0]) or state not in reachable(system):
        return False
    if not is_log(system, log) or len(log) not in (2, 3):
        return False
    return has_form(system[3], log) and is_fault_at(system, state, log)


def is_changed(system, log):
    """Tell whether compacting changes the outcome of a log."""
    return outcome(system, log) != outcome(system, compacted(system, log))


def changed(system):
    """Return None if the kinds are right, otherwise some log whose outcome compacting changes."""
    check_system(system)
    found = fault(system)
    if found is None:
        return None
    state, log = found
    way = path(system, state)
    # Both logs below are compacted to the same one, but have different outcomes:
    # so compacting changes that of at least one of them.
    if is_changed(system, way + log):
        return way + log
    return way + log[1:]


def shows_changed(system, thing):
    """Tell of any value whether it shows that the kinds are right, or is a log that compacting changes."""
    check_system(system)
    if thing is None:
        return fault(system) is None
    return is_log(system, thing) and is_changed(system, thing)
