"""Exploring: all states of a program that can be reached, and all its ends."""

from handshaker.errors import TooLarge
from handshaker.world import World

MOST_STATES = 3000


def explore(program):
    """Return the pairs of an end and the least of its shortest orders, in the order of these."""
    search = Search(World(program))
    found = {}
    for at in search.lasts:
        found.setdefault(search.end(at), at)
    return [(end, search.order(at)) for end, at in found.items()]


def reachable(program):
    """Return the list of all states that can be reached, in the order in which they are found."""
    return Search(World(program)).states


class Search:
    """All states that can be reached, nearer ones first, each by the least of its shortest orders."""

    def __init__(self, world):
        self._world = world
        self._known = {}
        # For each state the number of the state from which it was found, and the step.
        self._ways = []
        self.states = []
        # The numbers of the end states.
        self.lasts = []
        self._find(world.first(), None)
        at = 0
        while at < len(self.states):
            self._go_through(at)
            at += 1

    def end(self, at):
        """Return the end of the end state with this number."""
        return self._world.end_of(self.states[at])

    def order(self, at):
        """Return the order by which the state with this number was found."""
        steps = []
        way = self._ways[at]
        while way is not None:
            steps.append(way[1])
            way = self._ways[way[0]]
        return steps[::-1]

    def _go_through(self, at):
        moves = self._world.moves(self.states[at])
        for move in moves:
            if move.behind not in self._known:
                self._find(move.behind, (at, move.step))
        if len(moves) == 0:
            self.lasts.append(at)

    def _find(self, state, way):
        if len(self.states) == MOST_STATES:
            raise TooLarge("states")
        self._known[state] = True
        self.states.append(state)
        self._ways.append(way)
