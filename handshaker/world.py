"""The plain machine: threads whose blocks are run whole."""

from handshaker.errors import Fault, ImpossibleStep
from handshaker.flat import flat_thread
from handshaker.values import first_memory
from handshaker.walk import evaluate_slots, go_on, ticks_of, walk_block

TICK = "tick"


class Move:
    """A possible step, the state behind it, and what its block has read and written, if it runs one."""

    def __init__(self, step, behind, reads, writes):
        self.step = step
        self.behind = behind
        self.reads = reads
        self.writes = writes


class World:
    """The plain machine of a program."""

    def __init__(self, program):
        self._codes = []
        self._locals = []
        threads = []
        for thread in program.threads:
            code, count = flat_thread(thread, program.cells)
            values = [value for _, value in thread.variables]
            self._codes.append(code)
            self._locals.append(len(values))
            threads.append(_gone_on(code, 0, values + [0] * (count - len(values)), ()))
        self._first = (tuple(first_memory(program.cells)), tuple(threads))
        self._steps = list(range(len(threads))) + [TICK]

    def first(self):
        """Return the first state."""
        return self._first

    def possible(self, state):
        """Return the list of the possible steps, threads in ascending order and then the tick."""
        return [move.step for move in self.moves(state)]

    def after(self, state, step):
        """Return the state behind a step."""
        move = self._move(state, step) if step in self._steps else None
        if move is None:
            raise ImpossibleStep(step)
        return move.behind

    def end_of(self, state):
        """Return the end of an end state, or None if a step is possible."""
        if self.moves(state):
            return None
        memory, threads = state
        ends = [_end_of(mode) for _, _, _, _, mode in threads]
        return memory, tuple(ends), tuple([said for _, _, _, said, _ in threads])

    def outcome(self, state, number):
        """Return the outcome of the block at which a thread is, or None if it is at none."""
        at, frame, _, _, _ = state[1][number]
        if self.word_at(number, at) != "block":
            return None
        return walk_block(self._codes[number][at][1], list(frame), self._locals[number], list(state[0]))

    def word_at(self, number, at):
        """Return the first word of an instruction of a thread, "" behind the last one."""
        code = self._codes[number]
        return code[at][0] if at < len(code) else ""

    def moves(self, state):
        """Return the list of the moves from a state, in the order of their steps."""
        found = [self._move(state, step) for step in self._steps]
        return [move for move in found if move is not None]

    def _move(self, state, step):
        """Return the move with a step, or None if it is not possible."""
        if step == TICK:
            return _tick(state)
        at, frame, ticks, said, mode = state[1][step]
        if mode != "on":
            return None
        instruction = self._codes[step][at]
        expression = _ticks_at(instruction)
        if expression is not None and ticks == -1:
            return _moved(state, step, _counted(state[1][step], expression))
        if instruction[0] == "block":
            return self._block(state, step)
        if ticks > 0:
            return None
        return _moved(state, step, _gone_on(self._codes[step], at + 1, frame, said))

    def _block(self, state, number):
        """Return the move of a thread that runs its block, or None if it has to wait."""
        at, frame, ticks, said, _ = state[1][number]
        code = self._codes[number]
        outcome = self.outcome(state, number)
        if outcome.kind == "retry":
            if code[at][2] is None or ticks > 0:
                return None
            thread = _gone_on(code, code[at][3], frame, said)
        elif outcome.kind == "fault":
            thread = (at, frame, ticks, said, outcome.reason)
        else:
            behind = outcome.finals + list(frame[len(outcome.finals):])
            thread = _gone_on(code, at + 1, behind, (*said, *outcome.later))
        return _moved(state, number, thread, outcome.reads, outcome.writes)


def _ticks_at(instruction):
    """Return the expression for the ticks of a pause or a block, None for a block without a limit."""
    return instruction[1] if instruction[0] == "pause" else instruction[2]


def _gone_on(code, at, frame, said):
    """Return the state of a thread that has gone on from an instruction."""
    frame = list(frame)
    said = list(said)
    mode = "on"
    try:
        while at < len(code) and code[at][0] not in ("pause", "block"):
            if code[at][0] == "say":
                said.append(evaluate_slots(code[at][1], frame))
                at += 1
            else:
                at = go_on(code[at], at, frame)
        if at == len(code):
            mode = "ended"
    except Fault as fault:
        mode = fault.reason
    return at, tuple(frame), -1, tuple(said), mode


def _counted(thread, expression):
    """Return the state of a thread that has evaluated its ticks."""
    at, frame, ticks, said, mode = thread
    try:
        return at, frame, ticks_of(expression, frame), said, mode
    except Fault as fault:
        return at, frame, ticks, said, fault.reason


def _moved(state, number, thread, reads=None, writes=None):
    """Return the move that gives a thread this state, and the memory the writes."""
    reads = reads or {}
    writes = writes or {}
    memory = tuple([writes.get(cell, value) for cell, value in enumerate(state[0])])
    threads = (*state[1][:number], thread, *state[1][number + 1:])
    return Move(number, (memory, threads), reads, writes)


def _tick(state):
    """Return the move of a tick, or None if it is not possible."""
    memory, threads = state
    ticked = tuple([_ticked(thread) for thread in threads])
    if ticked == threads:
        return None
    return Move(TICK, (memory, ticked), {}, {})


def _ticked(thread):
    at, frame, ticks, said, mode = thread
    if mode != "on" or ticks <= 0:
        return thread
    return at, frame, ticks - 1, said, mode


def _end_of(mode):
    if mode == "on":
        return ("asleep",)
    if mode == "ended":
        return ("ended",)
    return ("broken", mode)


def run_order(program, order):
    """Return the state behind an order."""
    world = World(program)
    state = world.first()
    for step in order:
        state = world.after(state, step)
    return state
