"""Code that is being written, and the expressions in it."""

from handshaker.parts import occurs, parts_of
from handshaker.values import is_value


class Coder:
    """Code that is being written, with the slots that it uses."""

    def __init__(self, cells, names, low):
        self.cells = cells
        self.names = names
        self.places = _places(cells)
        self.code = []
        # The least slot that is free now, and the number of slots used at any time.
        self.low = low
        self.count = low
        # The expressions whose instructions are written, and the open jumps over second parts.
        self.known = []
        self.skips = []

    def emit(self, instruction):
        """Add an instruction; return its number."""
        self.code.append(instruction)
        return len(self.code) - 1

    def land(self, number):
        """Let the instruction with this number, which ends with where it leads, lead to here."""
        self.code[number] = (*self.code[number][:-1], len(self.code))

    def new_slot(self):
        """Return a slot that is free, and take it."""
        self.low += 1
        self.count = max(self.count, self.low)
        return self.low - 1

    def kept(self, expression):
        """Return an expression that keeps the value which this one has here."""
        # Slots that expressions name do not change before the statement does its work.
        if expression[0] == "slot" or expression[0] == "number" and is_value(expression[1]):
            return expression
        slot = self.new_slot()
        self.emit(("set", slot, expression))
        return ("slot", slot)


def _places(cells):
    """Return for each name the number of its first cell, and its size."""
    places = {}
    ahead = 0
    for name, size, _ in cells:
        places[name] = (ahead, size)
        ahead += size
    return places


def flat_expression(coder, expression):
    """Return an expression of flat code that has, behind the code so far, the value of this one.

    Cells are loaded by instructions, for which the code of what must be
    evaluated ahead of them is added, too.
    """
    # Expressions can be too deep for calls within calls: what is to be done stands in a list.
    waiting = [("part", expression)]
    while waiting:
        word, what = waiting.pop()
        if word == "part":
            waiting.extend(_tasks(what)[::-1])
        else:
            task = TASKS[word]
            task(coder, what)
    return coder.known.pop()


def _tasks(part):
    """Return what is to be done for a part of an expression, in order."""
    inner = [("part", one) for one in parts_of(part)]
    if part[0] == "cell":
        return [*inner, ("load", part[1])]
    if len(inner) < 2 or not occurs("cell", part[2]):
        return [*inner, ("join", part)]
    if part[0] == "and" or part[0] == "or":
        return [inner[0], ("skip", part[0]), inner[1], ("join_skipped", part)]
    return [inner[0], ("keep", part), inner[1], ("join", part)]


def _join(coder, part):
    many = len(parts_of(part))
    if part[0] == "local":
        joined = ("slot", coder.names.index(part[1]))
    elif many == 0:
        joined = part
    else:
        behind = len(coder.known) - many
        joined = (part[0], *coder.known[behind:])
        del coder.known[behind:]
    coder.known.append(joined)


def _load(coder, name):
    index = coder.known.pop()
    first, size = coder.places[name]
    slot = coder.new_slot()
    coder.emit(("load", slot, first, size, index))
    coder.known.append(("slot", slot))


def _keep(coder, _):
    # A cell in the second part would otherwise be loaded ahead of a fault in the first one.
    first = coder.known.pop()
    coder.known.append(coder.kept(first))


def _skip(coder, word):
    """Write the jump over the second part, which must not be read if the first one decides."""
    slot = coder.new_slot()
    coder.emit(("set", slot, _truth(coder.known.pop())))
    going_on = ("slot", slot) if word == "and" else ("not", ("slot", slot))
    coder.skips.append(coder.emit(("unless", going_on, None)))
    coder.known.append(("slot", slot))


def _join_skipped(coder, _):
    second = coder.known.pop()
    coder.emit(("set", coder.known[-1][1], _truth(second)))
    coder.land(coder.skips.pop())


def _truth(expression):
    return ("not", ("not", expression))


TASKS = {"join": _join, "load": _load, "keep": _keep, "skip": _skip, "join_skipped": _join_skipped}
