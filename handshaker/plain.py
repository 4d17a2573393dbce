"""Blocks that are run whole."""

from handshaker.errors import Fault
from handshaker.limits import MOST_TIMES
from handshaker.values import cell_number, value_with


class Outcome:
    """What a block that was run whole has led to."""

    def __init__(self, kind, *, reads, writes, finals, later, reason=None):
        self.kind = kind
        self.reads = dict(reads)
        self.writes = dict(writes)
        self.finals = list(finals)
        self.later = list(later)
        self.reason = reason


def same_outcome(outcome, other):
    """Return True if all attributes of two outcomes are equal."""
    return _all_of(outcome) == _all_of(other)


def _all_of(outcome):
    return [outcome.kind, outcome.reads, outcome.writes, outcome.finals, outcome.later, outcome.reason]


def run_block(body, cells, locals_now, memory):
    """Return the outcome of running a block whole, with the locals as pairs (name, value)."""
    run = Run(cells, locals_now, memory)
    try:
        kind = run.do_list(body)
    except Fault as fault:
        return _without_effect("fault", run.reads, locals_now, fault.reason)
    if kind != "done":
        return _without_effect(kind, run.reads, locals_now, None)
    finals = list(run.locals_now.values())
    return Outcome(kind, reads=run.reads, writes=run.writes, finals=finals, later=run.later)


def _without_effect(kind, reads, locals_now, reason):
    finals = [value for _, value in locals_now]
    return Outcome(kind, reads=reads, writes={}, finals=finals, later=[], reason=reason)


class Run:
    """A block that is being run: what it has read, and what it keeps to itself."""

    def __init__(self, cells, locals_now, memory):
        self._cells = cells
        self._memory = memory
        self.locals_now = dict(locals_now)
        self.reads = {}
        self.writes = {}
        self.later = []

    def do_list(self, statements):
        """Run statements in order; return "done", or the "retry" or "undo" to which they come."""
        for statement in statements:
            kind = self._do(statement)
            if kind != "done":
                return kind
        return "done"

    def _do(self, statement):
        word = statement[0]
        if word == "set":
            self.locals_now[statement[1]] = self._value(statement[2])
        elif word == "put":
            self._put(statement)
        elif word == "later":
            self.later.append(self._value(statement[1]))
        elif word == "if":
            return self.do_list(statement[2] if self._value(statement[1]) != 0 else statement[3])
        elif word == "repeat":
            return self._repeat(statement)
        elif word == "choose":
            return self._choose(statement)
        else:
            return word
        return "done"

    def _put(self, statement):
        index = self._value(statement[2])
        value = self._value(statement[3])
        # The cell is looked for behind the expression: a fault in that comes first.
        self.writes[cell_number(self._cells, statement[1], index)] = value

    def _repeat(self, statement):
        times = self._value(statement[1])
        if times < 0 or times > MOST_TIMES:
            raise Fault("count")
        for _ in range(times):
            kind = self.do_list(statement[2])
            if kind != "done":
                return kind
        return "done"

    def _choose(self, statement):
        # The reads are not kept for putting back: what was read has led here.
        locals_then = dict(self.locals_now)
        writes_then = dict(self.writes)
        later_then = list(self.later)
        kind = self.do_list(statement[1])
        if kind != "retry":
            return kind
        self.locals_now = locals_then
        self.writes = writes_then
        self.later = later_then
        return self.do_list(statement[2])

    def _value(self, expression):

        def look(part, inner):
            if part[0] == "local":
                return self.locals_now[part[1]]
            return self._read(cell_number(self._cells, part[1], inner[0]))

        return value_with(expression, look)

    def _read(self, cell):
        if cell in self.writes:
            return self.writes[cell]
        self.reads[cell] = self._memory[cell]
        return self.reads[cell]
