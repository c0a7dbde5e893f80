"""Stores: logs that are kept, with what takes their changes back."""

from lastofkind.covers import thinned
from lastofkind.errors import NoNumber, NothingDone, NotRight, NotSteady, TooMany
from lastofkind.kinds import compacted, fault
from lastofkind.repeats import firsts, repeat_fault
from lastofkind.systems import check_log, check_operation, check_system, end_of, is_number, is_place

MOST_ENTRIES = 40
USUAL_MOST = 5


class Trying:
    """A context manager for one block: an exception that leaves the block takes its changes of a store back."""

    def __init__(self, store):
        self.store = store
        self.log = ()
        self.earlier = []

    def __enter__(self):
        self.log = self.store._log
        # A copy, since the changes within the block add to the list of the store, and undo takes from it.
        self.earlier = list(self.store._earlier)

    def __exit__(self, kind, value, trace):
        store = self.store
        if kind is not None:
            store._log = self.log
            store._earlier = self.earlier


class Store:
    """A log, at first empty, whose changes can be taken back."""

    def __init__(self, system):
        check_system(system)
        self._system = system
        self._log = ()
        self._earlier = []

    def _kept(self, log):
        """Return what the store keeps of a log."""
        return log

    def _limit(self):
        """Return how many entries there may be."""
        return MOST_ENTRIES

    def _change(self, log):
        """Keep a log in the place of the one before."""
        kept = self._kept(log)
        limit = self._limit()
        if len(kept) > limit:
            raise TooMany(len(kept), limit)
        self._earlier.append(self._log)
        self._log = kept

    @property
    def system(self):
        """The system."""
        return self._system

    @property
    def entries(self):
        """The log."""
        return self._log

    @entries.setter
    def entries(self, value):
        self.assign_entries(value)

    @property
    def outcome(self):
        """The outcome of the log."""
        return end_of(self._system, self._system[1], self._log)

    @property
    def changes(self):
        """The number of changes that have not been taken back."""
        return len(self._earlier)

    def assign_entries(self, log):
        """Put a log in the place of the one before."""
        check_log(self._system, log)
        self._change(log)

    def extend(self, log):
        """Put all entries of a log at the end."""
        check_log(self._system, log)
        self._change(self._log + log)

    def add(self, operation):
        """Put an operation at the end."""
        check_operation(self._system, operation)
        self._change(self._log + (operation,))

    def __call__(self, operation):
        self.add(operation)

    def undo(self):
        """Take back the last change that was not taken back."""
        if not self._earlier:
            raise NothingDone()
        self._log = self._earlier.pop()

    def trying(self):
        """Return a context manager for one block, the changes of which an exception takes back."""
        return Trying(self)

    def __len__(self):
        return len(self._log)

    def __getitem__(self, at):
        if not is_place(at, len(self._log)):
            raise NoNumber()
        return self._log[at]

    def __iter__(self):
        # Without this, Python would go over a store by its positions until one is refused.
        raise TypeError("a store is not iterated over: take its entries")

    def __contains__(self, x):
        # A bool is equal to an entry for Python, so it is not enough to look for it among them.
        return is_place(x, len(self._system[2])) and x in self._log

    def __eq__(self, other):
        if not isinstance(other, Store) or self.__class__.__name__ != other.__class__.__name__:
            return False
        return self._system == other._system and self._log == other._log

    def __repr__(self):
        return "".join([self.__class__.__name__, f"({len(self._log)} entries)"])


class Compact(Store):
    """A store of a system with right kinds that compacts its log with each change."""

    def __init__(self, system):
        super().__init__(system)
        if fault(system) is not None:
            raise NotRight()

    def _kept(self, log):
        return compacted(self._system, log)


class Thin(Store):
    """A store that thins its log with each change."""

    def __init__(self, system):
        super().__init__(system)

    def _kept(self, log):
        return thinned(self._system, log)


class Once(Store):
    """A store of operations that may be delivered again, which leaves out what stands earlier already."""

    def __init__(self, system):
        super().__init__(system)
        if repeat_fault(system) is not None:
            raise NotSteady()

    def _kept(self, log):
        return firsts(self._system, log)


class Limited(Store):
    """A store with a limit of its own."""

    def __init__(self, system, most=USUAL_MOST):
        super().__init__(system)
        if not is_number(most, 0, MOST_ENTRIES):
            raise NoNumber()
        self._most = most

    def _limit(self):
        return self._most

    @property
    def most(self):
        """The number of entries that there may be."""
        return self._most


class LimitedThin(Limited, Thin):
    """A store with a limit of its own that thins its log with each change."""

    def __init__(self, system, most=USUAL_MOST):
        super().__init__(system, most)

    @property
    def most(self):
        """The number of entries that there may be."""
        return self._most
