"""Effects: what logs do, told by where they lead from each reachable state."""

from lastofkind.errors import NoEffect, NoMatch, NoMoves, NoNumber, NoState
from lastofkind.systems import MOST_STATES, check_log, check_system, end_of, is_number, is_place, reachable

MOST_TIMES = 1000000000000


def is_reached(thing, reached):
    """Tell of any value whether it is one of the reachable states."""
    # A bool is equal to a state for Python, so it is not enough to look for it among them.
    return is_place(thing, MOST_STATES) and thing in reached


def are_moves(thing, reached):
    """Tell of any value whether it has a reachable state for each reachable state."""
    if not isinstance(thing, tuple) or len(thing) != len(reached):
        return False
    return all([is_reached(part, reached) for part in thing])


def followed(reached, moves, later):
    """Return the moves that do first some moves, then the later ones."""
    targets = dict(zip(reached, later))
    return tuple([targets[state] for state in moves])


def repeated(reached, moves, many):
    """Return the moves that do some moves so many times."""
    done = reached
    # The moves are doubled with each round: going on one by one would take too long for great numbers.
    while many > 0:
        if many % 2 == 1:
            done = followed(reached, done, moves)
        moves = followed(reached, moves, moves)
        many = many // 2
    return done


def check_effects(thing):
    """Raise NoEffect for what is not a tuple of one or more Effects, and NoMatch if their systems differ."""
    if not isinstance(thing, tuple) or not thing:
        raise NoEffect()
    if not all([isinstance(part, Effect) for part in thing]):
        raise NoEffect()
    if not all([part.system == thing[0].system for part in thing]):
        raise NoMatch()


class Effect:
    """What a log does: for each reachable state the one to which it leads."""

    def __init__(self, system, moves):
        reached = reachable(system)
        if not are_moves(moves, reached):
            raise NoMoves()
        self._system = system
        self._moves = moves
        self._reached = reached

    @classmethod
    def of(cls, system, log):
        """Return what a log does."""
        check_system(system)
        check_log(system, log)
        moves = tuple([end_of(system, state, log) for state in reachable(system)])
        return cls(system, moves)

    @staticmethod
    def joined(effects):
        """Return what a tuple of one or more effects does, one after another."""
        check_effects(effects)
        system = effects[0].system
        reached = reachable(system)
        moves = reached
        for effect in effects:
            moves = followed(reached, moves, effect.moves)
        return Effect(system, moves)

    @property
    def system(self):
        """The system."""
        return self._system

    @property
    def moves(self):
        """The state to which each reachable state leads."""
        return self._moves

    @property
    def fixed(self):
        """The reachable states that lead to themselves, ascending."""
        return tuple([state for state, target in zip(self._reached, self._moves) if state == target])

    def __add__(self, other):
        check_effects((self, other))
        return Effect(self._system, followed(self._reached, self._moves, other.moves))

    def __radd__(self, other):
        # Python comes here only if what stands before the sign is not an Effect.
        raise NoEffect()

    def __mul__(self, other):
        if not is_number(other, 0, MOST_TIMES):
            raise NoNumber()
        return Effect(self._system, repeated(self._reached, self._moves, other))

    def __call__(self, state):
        if not is_reached(state, self._reached):
            raise NoState()
        return self._moves[self._reached.index(state)]

    def __eq__(self, other):
        return isinstance(other, Effect) and self._system == other.system and self._moves == other.moves

    def __repr__(self):
        return f"Effect({len(self._moves)} states, {len(self.fixed)} fixed)"
