"""Any order: whether the order of the entries of a log matters, and all orders of a log."""

from lastofkind.errors import TooMany
from lastofkind.systems import apart, check_log, check_system, end_of, reachable

MOST_ORDERED = 6


def order_fault(system):
    """Return None if the order of entries never matters, otherwise the first state with two operations that tell."""
    check_system(system)
    entries = range(len(system[2]))
    pairs = [(one, other) for one in entries for other in entries if one < other]
    for state in reachable(system):
        for one, other in pairs:
            if end_of(system, state, (one, other)) != end_of(system, state, (other, one)):
                return state, one, other
    return None


def next_order(order):
    """Return the next greater tuple with the same entries, or None if there is none."""
    rising = [at for at in range(len(order) - 1) if order[at] < order[at + 1]]
    if not rising:
        return None
    place = rising[-1]
    rest = sorted(order[place:])
    greater = [entry for entry in rest if entry > order[place]][0]
    rest.remove(greater)
    return order[:place] + (greater,) + tuple(rest)


def orders(system, log):
    """Yield all different logs with the same entries, each as often, ascending."""
    check_system(system)
    check_log(system, log)
    if len(log) > MOST_ORDERED:
        raise TooMany(len(log), MOST_ORDERED)
    order = tuple(sorted(log))
    while order is not None:
        yield order
        order = next_order(order)


def by_set(system):
    """Tell whether logs with the same set of operations always have the same outcome."""
    if order_fault(system) is not None:
        return False
    return all([apart(system, (entry, entry), (entry,)) is None for entry in range(len(system[2]))])
