"""Systems of operations, their logs, and the states to which logs lead."""

from lastofkind.errors import NoLog, NoOperation, NoState, NoSystem

MOST_STATES = 6
MOST_OPERATIONS = 6
GREATEST_KIND = 9


def is_number(thing, least, most):
    """Tell of any value whether it is an integer from least to most."""
    # A bool is an int for Python, but never one of the integers meant here.
    return isinstance(thing, int) and not isinstance(thing, bool) and least <= thing <= most


def is_place(thing, many):
    """Tell of any value whether it is one of the numbers from 0 that are below many."""
    return is_number(thing, 0, many - 1)


def are_places(thing, many):
    """Tell of any value whether it is a tuple of numbers from 0 that are below many."""
    return isinstance(thing, tuple) and all([is_place(part, many) for part in thing])


def are_operations(thing, states):
    """Tell of any value whether it can be the operations of a system with so many states."""
    if not isinstance(thing, tuple) or not 1 <= len(thing) <= MOST_OPERATIONS:
        return False
    return all([are_places(part, states) and len(part) == states for part in thing])


def are_kinds(thing, many):
    """Tell of any value whether it can be the kinds of so many operations."""
    if not isinstance(thing, tuple) or len(thing) != many:
        return False
    return all([part is None or is_number(part, 0, GREATEST_KIND) for part in thing])


def is_system(thing):
    """Tell of any value whether it is a system."""
    if not isinstance(thing, tuple) or len(thing) != 4:
        return False
    states, start, operations, kinds = thing
    if not is_number(states, 1, MOST_STATES) or not is_place(start, states):
        return False
    return are_operations(operations, states) and are_kinds(kinds, len(operations))


def is_log(system, thing):
    """Tell of any value whether it is a log of a system, however long."""
    return are_places(thing, len(system[2]))


def check_system(system):
    """Raise NoSystem for what is not a system."""
    if not is_system(system):
        raise NoSystem()


def check_log(system, log):
    """Raise NoLog for what is not a log of a system."""
    if not is_log(system, log):
        raise NoLog()


def check_operation(system, operation):
    """Raise NoOperation for what is not the position of an operation of a system."""
    if not is_place(operation, len(system[2])):
        raise NoOperation()


def end_of(system, state, log):
    """Return the state to which a log leads from a state, both known to be right."""
    operations = system[2]
    for entry in log:
        state = operations[entry][state]
    return state


def first_paths(system):
    """Return a dict with the first log, in order, to each reachable state."""
    paths = {system[1]: ()}
    waiting = [system[1]]
    # The states wait in the order of their logs, so the first log found is the first in order.
    while waiting:
        state = waiting.pop(0)
        for entry, operation in enumerate(system[2]):
            if operation[state] not in paths:
                paths[operation[state]] = paths[state] + (entry,)
                waiting.append(operation[state])
    return paths


def run(system, state, log):
    """Return the state to which a log leads from a state."""
    check_system(system)
    if not is_place(state, system[0]):
        raise NoState()
    check_log(system, log)
    return end_of(system, state, log)


def outcome(system, log):
    """Return the state to which a log leads from the start."""
    check_system(system)
    check_log(system, log)
    return end_of(system, system[1], log)


def reachable(system):
    """Return the reachable states, ascending."""
    check_system(system)
    paths = first_paths(system)
    return tuple([state for state in range(system[0]) if state in paths])


def path(system, state):
    """Return the first log, in order, that leads from the start to a reachable state."""
    check_system(system)
    paths = first_paths(system)
    if not is_place(state, system[0]) or state not in paths:
        raise NoState()
    return paths[state]


def apart(system, one, other):
    """Return the least reachable state from which two logs lead to different states, or None."""
    check_system(system)
    check_log(system, one)
    check_log(system, other)
    for state in reachable(system):
        if end_of(system, state, one) != end_of(system, state, other):
            return state
    return None
