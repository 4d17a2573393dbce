"""The limits of a program, and of what it counts."""

from handshaker.parts import lists_of

MOST_THREADS = 6
MOST_CELLS = 24
MOST_LOCALS = 10
MOST_STATEMENTS = 80
MOST_LISTS = 6
MOST_REPEATS = 2
MOST_TIMES = 20
MOST_TICKS = 1000


def measure(statements):
    """Return how many statements a list has, and how deep lists and repeats stand in it.

    The list itself does not count as a list, its statements in all their lists count.
    """
    many = 0
    lists = 0
    repeats = 0
    waiting = [(statements, 0, 0)]
    while waiting:
        rows, depth, around = waiting.pop()
        many += len(rows)
        lists = max(lists, depth)
        for statement in rows:
            loops = around + 1 if statement[0] == "repeat" else around
            repeats = max(repeats, loops)
            for inner in lists_of(statement):
                waiting.append((inner, depth + 1, loops))
    return many, lists, repeats


def are_within_limits(many, lists, repeats):
    """Return True if a thread may have so many statements, and lists and repeats so deep."""
    return many <= MOST_STATEMENTS and lists <= MOST_LISTS and repeats <= MOST_REPEATS
