"""Orders that suffice: independent steps are not looked at in both orders."""

from handshaker.errors import ImpossibleStep, TooLarge
from handshaker.world import TICK, World

MOST = 3000


def independent(program, state, first, second):
    """Return True if two possible steps are independent in a state."""
    moves = {move.step: move for move in World(program).moves(state)}
    for step in (first, second):
        if step not in moves:
            raise ImpossibleStep(step)
    return _are_independent(moves[first], moves[second])


def _are_independent(move, other):
    if move.step == other.step or move.step == TICK or other.step == TICK:
        return False
    return not (_touches(move.writes, other) or _touches(other.writes, move))


def _touches(writes, move):
    """Return True if a cell of the writes is read or written by a move."""
    return any([cell in move.reads or cell in move.writes for cell in writes])


def reduced_orders(program):
    """Return a list of orders that suffices: one for each end."""
    return list(_orders_by_end(program).values())


def reduced_ends(program):
    """Return the ascending list of the ends of these orders."""
    return sorted(list(_orders_by_end(program)))


def _orders_by_end(program):
    walk = Descent(World(program))
    while walk.branches:
        walk.go_on()
    return walk.orders


class Branch:
    """A state on the way: the step that led to it, and the moves from it.

    Those that are awake are yet to be made. The others are asleep: all ends behind
    them have been found.
    """

    def __init__(self, step, moves, asleep):
        self.step = step
        self.awake = [move for move in moves if move.step not in asleep]
        self.asleep = [move for move in moves if move.step in asleep]


class Descent:
    """Goes from the first state down to end states, and back, into each state once."""

    def __init__(self, world):
        self._world = world
        self._seen = {}
        # How many ways have been given up or have led to an end state: none of them
        # begins another one, so there are at least as many orders.
        self._ways = 0
        self.branches = []
        self.orders = {}
        self._enter(None, world.first(), [])

    def go_on(self):
        """Make one more move from the last state on the way, or leave it."""
        branch = self.branches[-1]
        if len(branch.awake) == 0:
            self.branches.pop()
            return
        move = branch.awake.pop(0)
        # A move that could be made first, and has been, need not be made behind this one.
        asleep = [one.step for one in branch.asleep if _are_independent(one, move)]
        branch.asleep.append(move)
        if move.behind in self._seen:
            self._count_way()
        else:
            self._enter(move.step, move.behind, asleep)

    def _enter(self, step, state, asleep):
        moves = self._world.moves(state)
        branch = Branch(step, moves, asleep)
        self._seen[state] = True
        self.branches.append(branch)
        if len(moves) == 0:
            self.orders.setdefault(self._world.end_of(state), [one.step for one in self.branches[1:]])
        if len(branch.awake) == 0:
            self._count_way()

    def _count_way(self):
        self._ways += 1
        if self._ways > MOST and len(self._seen) > MOST:
            raise TooLarge("orders")
