"""Values, expressions, cells and memories."""

from handshaker.errors import Fault
from handshaker.parts import parts_of

LEAST = -1000000000
GREATEST = 1000000000


def is_value(value):
    """Return True if the argument is a value, for any argument."""
    if isinstance(value, bool) or not isinstance(value, int):
        return False
    return LEAST <= value <= GREATEST


def first_memory(cells):
    """Return the memory with the first values of the cells."""
    memory = []
    for _, size, first in cells:
        memory.extend([first] * size)
    return memory


def cell_number(cells, name, index):
    """Return the number of a cell; raise Fault("index") if there is none."""
    ahead = 0
    for known, size, _ in cells:
        if known == name:
            if index < 0 or index >= size:
                raise Fault("index")
            return ahead + index
        ahead += size
    raise Fault("index")


def evaluate(expression, locals_now, cells=(), memory=()):
    """Return the value of an expression; raise Fault where it has none."""

    def look(part, inner):
        if part[0] == "local":
            return locals_now[part[1]]
        return memory[cell_number(cells, part[1], inner[0])]

    return value_with(expression, look)


def value_with(expression, look):
    """Return the value of an expression.

    `look` gives the value of a part that is neither a number nor an operation,
    and is passed that part and the list of the values of its own parts.
    """
    # Operators that group to the left nest as deep as a line is long, too deep
    # for calls within calls: so the parts that are begun stand in a list, each
    # with how many of its own parts are evaluated.
    begun = [(expression, 0)]
    known = []
    while begun:
        part, many = begun.pop()
        inner = parts_of(part)
        if many < len(inner) and not _is_decided(part[0], known[len(known) - many:]):
            begun.append((part, many + 1))
            begun.append((inner[many], 0))
        else:
            behind = len(known) - many
            result = _result(part, known[behind:], look)
            del known[behind:]
            known.append(result)
    return known[0]


def _is_decided(word, inner):
    """Return True if the value of an operation needs no further part."""
    if word == "and":
        return inner == [0]
    return word == "or" and len(inner) == 1 and inner[0] != 0


def _result(part, inner, look):
    """Return the value of a part, given the values of its own parts."""
    word = part[0]
    if word == "number":
        result = part[1]
    elif len(inner) == 0 or word == "cell":
        return look(part, inner)
    elif word == "and" or word == "or":
        # The last part that was evaluated decides, whether it is the first or the second.
        result = _truth(inner[-1] != 0)
    elif len(inner) == 1:
        result = _of_one(word, inner[0])
    else:
        result = _of_two(word, inner[0], inner[1])
    if not is_value(result):
        raise Fault("range")
    return result


def _truth(holds):
    return 1 if holds else 0


def _of_one(word, only):
    if word == "not":
        return _truth(only == 0)
    return -only


def _of_two(word, first, second):
    if word == "plus":
        return first + second
    if word == "minus":
        return first - second
    if word == "times":
        return first * second
    if word == "less":
        return _truth(first < second)
    if word == "atmost":
        return _truth(first <= second)
    if word == "same":
        return _truth(first == second)
    if second == 0:
        raise Fault("zero")
    if word == "over":
        return first // second
    return first - second * (first // second)
