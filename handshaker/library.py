"""Semaphores, barriers, channels and exchanges: the cells and statements of which they are made."""

from handshaker.errors import InvalidCount

ZERO = ("number", 0)
ONE = ("number", 1)
TWO = ("number", 2)


def semaphore(name, n):
    """Return the cell of a semaphore with the first value n."""
    if n < 0 or n > 1000:
        raise InvalidCount()
    return (name, 1, n)


def barrier(name, n):
    """Return the cells of a barrier for n threads."""
    if n < 1 or n > 6:
        raise InvalidCount()
    return (name, 2, 0)


def channel(name, n):
    """Return the cells of a channel for n items."""
    if n < 1 or n > 10:
        raise InvalidCount()
    return (name, n + 2, 0)


def exchange(name):
    """Return the cells of an exchange."""
    return (name, 3, 0)


def take(name):
    """Return the statements that take 1 from a semaphore."""
    cell = ("cell", name, ZERO)
    return [_block([_retry_if(("less", cell, ONE)), ("put", name, ZERO, ("minus", cell, ONE))])]


def give(name):
    """Return the statements that add 1 to a semaphore."""
    return [_block([("put", name, ZERO, _one_more(("cell", name, ZERO)))])]


def meet(name, n, x):
    """Return the statements that meet n - 1 other threads at a barrier; x becomes the round."""
    come = ("cell", name, ZERO)
    rounds = ("cell", name, ONE)
    last = [("put", name, ZERO, ZERO), ("put", name, ONE, _one_more(rounds))]
    earlier = [("put", name, ZERO, _one_more(come))]
    return [
        _block([("set", x, rounds), ("if", ("same", _one_more(come), ("number", n)), last, earlier)]),
        _block([_retry_if(("same", rounds, ("local", x)))]),
    ]


def send(name, n, expression):
    """Return the statements that send a value into a channel for n items."""
    place = ("cell", name, ("number", n))
    items = ("cell", name, ("number", n + 1))
    return [_block([
        _retry_if(("same", items, ("number", n))),
        ("put", name, ("rest", ("plus", place, items), ("number", n)), expression),
        ("put", name, ("number", n + 1), _one_more(items)),
    ])]


def receive(name, n, x):
    """Return the statements that receive the value of x from a channel for n items."""
    place = ("cell", name, ("number", n))
    items = ("cell", name, ("number", n + 1))
    return [_block([
        _retry_if(("same", items, ZERO)),
        ("set", x, ("cell", name, place)),
        ("put", name, ("number", n), ("rest", _one_more(place), ("number", n))),
        ("put", name, ("number", n + 1), ("minus", items, ONE)),
    ])]


def swap(name, x, role):
    """Return the statements that exchange the values of x of two threads; role is 1 for the one that waits."""
    stage = ("cell", name, ZERO)
    wait = [("set", role, ONE), ("put", name, ZERO, ONE), ("put", name, ONE, ("local", x))]
    come = [
        ("set", role, ZERO),
        ("put", name, TWO, ("local", x)),
        ("set", x, ("cell", name, ONE)),
        ("put", name, ZERO, TWO),
    ]
    answered = ("same", stage, TWO)
    second = _block([
        _retry_if(("not", answered)),
        ("set", x, ("cell", name, TWO)),
        ("put", name, ZERO, ZERO),
    ])
    return [
        _block([_retry_if(answered), ("if", ("same", stage, ZERO), wait, come)]),
        ("if", ("local", role), [second], []),
    ]


def _block(body):
    return ("block", None, body, [])


def _retry_if(expression):
    return ("if", expression, [("retry",)], [])


def _one_more(expression):
    return ("plus", expression, ONE)
