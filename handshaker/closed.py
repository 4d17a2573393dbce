"""Closed sets: lists of states that no step leaves."""

from handshaker.values import is_value
from handshaker.world import World


def shows(program, states, ends):
    """Return True if a list of states is closed and the ends of its end states are among the ends."""
    world = World(program)
    if not all([_is_proper(world, state) for state in states]):
        return False
    known = {state: True for state in states}
    shown = {end: True for end in ends}
    return world.first() in known and all([_is_shown(world, state, known, shown) for state in states])


def _is_shown(world, state, known, shown):
    """Return True if the moves from a proper state lead to known ones, or if its end is shown."""
    moves = world.moves(state)
    if len(moves) == 0:
        return world.end_of(state) in shown
    return all([move.behind in known for move in moves])


def _is_proper(world, state):
    if len(state) != 2:
        return False
    memory, threads = state
    cells, starts = world.first()
    if len(memory) != len(cells) or not _are_values(memory) or len(threads) != len(starts):
        return False
    return all([_is_thread_proper(world, number, threads[number]) for number in range(len(threads))])


def _is_thread_proper(world, number, thread):
    if len(thread) != 5:
        return False
    at, frame, ticks, said, mode = thread
    if len(frame) != len(world.first()[1][number][1]) or not _are_values(frame) or not _are_values(said):
        return False
    if at < 0 or ticks < -1:
        return False
    return mode != "on" or world.word_at(number, at) in ("block", "pause")


def _are_values(numbers):
    return all([is_value(number) for number in numbers])
