"""Delivering again: leaving out what stands earlier in a log already."""

from lastofkind.systems import apart, check_log, check_operation, check_system, end_of, reachable


def unsteady(system, operation):
    """Return None if an operation may be delivered again, otherwise the first log between that tells."""
    check_system(system)
    check_operation(system, operation)
    # The first log that tells has at most one entry: if the empty one does not, the operation changes just those
    # states to which it does not lead, and the first entry that leads to one of these tells alone.
    logs = [()] + [(entry,) for entry in range(len(system[2]))]
    for log in logs:
        once = (operation,) + log
        if apart(system, once + (operation,), once) is not None:
            return log
    return None


def repeating_logs(system):
    """Return all logs that tell whether all operations may be delivered again, in order."""
    entries = range(len(system[2]))
    twice = [(entry, entry) for entry in entries]
    return twice + [(entry, other, entry) for entry in entries for other in entries if other != entry]


def repeat_fault(system):
    """Return None if all operations may be delivered again, otherwise the least state with its first telling log."""
    check_system(system)
    logs = repeating_logs(system)
    for state in reachable(system):
        for log in logs:
            if end_of(system, state, log) != end_of(system, state, log[:-1]):
                return state, log
    return None


def firsts(system, log):
    """Return a log without the entries that stand earlier in it already."""
    check_system(system)
    check_log(system, log)
    kept = []
    for entry in log:
        if entry not in kept:
            kept.append(entry)
    return tuple(kept)
