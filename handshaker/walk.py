"""Walking flat code."""

from handshaker.errors import Fault
from handshaker.limits import MOST_TICKS, MOST_TIMES
from handshaker.plain import Outcome
from handshaker.values import value_with


def evaluate_slots(expression, frame):
    """Return the value of an expression of flat code; raise Fault where it has none."""

    def look(part, _):
        return frame[part[1]]

    return value_with(expression, look)


def ticks_of(expression, frame):
    """Return the ticks of a pause or a limit; raise Fault where it has none."""
    ticks = evaluate_slots(expression, frame)
    if ticks < 0 or ticks > MOST_TICKS:
        raise Fault("count")
    return ticks


def go_on(instruction, at, frame):
    """Do an instruction that concerns the frame alone; return the position at which it goes on."""
    word = instruction[0]
    if word == "jump":
        return instruction[1]
    if word == "unless":
        return at + 1 if evaluate_slots(instruction[1], frame) != 0 else instruction[2]
    value = evaluate_slots(instruction[2], frame)
    if word == "count" and (value < 0 or value > MOST_TIMES):
        raise Fault("count")
    frame[instruction[1]] = value
    return at + 1


class Walk:
    """A way through the code of a block: how far it has come, and what it keeps to itself."""

    def __init__(self, code, frame):
        self.begin(code, frame)

    def begin(self, code, frame):
        """Be at the beginning of the code, with a copy of the frame."""
        self.code = code
        self.at = 0
        self.frame = list(frame)
        self.reads = {}
        self.log = {}
        self.later = []
        self.noted = []
        self.state = "going"
        self.reason = None

    def may_read(self, _):
        """Return True if a cell can be read from the memory now."""
        return True

    def advance(self, memory):
        """Do the instruction at the position, or be done at the end of the code."""
        if self.at == len(self.code):
            self.state = "done"
            return
        instruction = self.code[self.at]
        try:
            if instruction[0] in ACTIONS:
                action = ACTIONS[instruction[0]]
                action(self, instruction, memory)
            else:
                self.at = go_on(instruction, self.at, self.frame)
        except Fault as fault:
            self.state = "fault"
            self.reason = fault.reason


def _load(walk, instruction, memory):
    _, slot, first, size, expression = instruction
    index = evaluate_slots(expression, walk.frame)
    cell = _cell(first, size, index)
    if cell in walk.log:
        walk.frame[slot] = walk.log[cell]
    elif walk.may_read(cell):
        walk.frame[slot] = memory[cell]
        walk.reads.setdefault(cell, memory[cell])
    else:
        walk.state = "lost"
        return
    walk.at += 1


def _put(walk, instruction, _):
    _, first, size, expression, of_value = instruction
    index = evaluate_slots(expression, walk.frame)
    value = evaluate_slots(of_value, walk.frame)
    walk.log[_cell(first, size, index)] = value
    walk.at += 1


def _cell(first, size, index):
    if index < 0 or index >= size:
        raise Fault("index")
    return first + index


def _later(walk, instruction, _):
    walk.later.append(evaluate_slots(instruction[1], walk.frame))
    walk.at += 1


def _note(walk, instruction, _):
    walk.noted.append((list(walk.frame), dict(walk.log), list(walk.later), instruction[1]))
    walk.at += 1


def _forget(walk, _, memory):
    walk.noted.pop()
    walk.at += 1


def _retry(walk, _, memory):
    if walk.noted:
        walk.frame, walk.log, walk.later, walk.at = walk.noted.pop()
    else:
        walk.state = "retry"


def _undo(walk, _, memory):
    walk.state = "undo"


ACTIONS = {
    "load": _load,
    "put": _put,
    "later": _later,
    "try": _note,
    "kept": _forget,
    "retry": _retry,
    "undo": _undo,
}


def walk_block(code, frame, locals_count, memory):
    """Return the outcome of walking the code of a block whole, from a frame with a value for each slot."""
    walk = Walk(code, frame)
    while walk.state == "going":
        walk.advance(memory)
    if walk.state == "done":
        finals = walk.frame[:locals_count]
        return Outcome("done", reads=walk.reads, writes=walk.log, finals=finals, later=walk.later)
    finals = frame[:locals_count]
    return Outcome(walk.state, reads=walk.reads, writes={}, finals=finals, later=[], reason=walk.reason)
