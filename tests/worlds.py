"""The plain machine for the tests: every block is run whole, and all orders are looked at."""

from handshaker.errors import Fault
from handshaker.flat import flat_thread
from handshaker.values import first_memory
from handshaker.walk import walk_block
from tests.threads import evaluate_slots, ticks_of


class PlainWorld:
    """All states of a program that steps of whole blocks lead to.

    A state is (memory, threads), a thread (at, frame, ticks, said, mode).
    """

    def __init__(self, program):
        self.program = program
        self.codes = [flat_thread(thread, program.cells)[0] for thread in program.threads]
        self.locals = [len(thread.variables) for thread in program.threads]
        threads = []
        for number, thread in enumerate(program.threads):
            many = flat_thread(thread, program.cells)[1] - len(thread.variables)
            frame = tuple(value for _, value in thread.variables) + (0,) * many
            threads.append(self.gone_on(number, (0, frame, -1, (), "on")))
        self.first = (tuple(first_memory(program.cells)), tuple(threads))

    def gone_on(self, number, thread):
        at, frame, ticks, said, mode = thread
        code, frame, said = self.codes[number], list(frame), list(said)
        try:
            while at < len(code) and code[at][0] not in ("block", "pause"):
                word = code[at][0]
                if word == "jump":
                    at = code[at][1]
                elif word == "unless":
                    at = at + 1 if evaluate_slots(code[at][1], frame) else code[at][2]
                else:
                    value = evaluate_slots(code[at][-1], frame)
                    if word == "say":
                        said.append(value)
                    elif word == "count" and not 0 <= value <= 20:
                        raise Fault("count")
                    else:
                        frame[code[at][1]] = value
                    at += 1
            mode = "ended" if at == len(code) else "on"
        except Fault as fault:
            mode = fault.reason
        return at, tuple(frame), ticks, tuple(said), mode

    def after(self, state, step):
        """The state behind a step, or None if it is not possible."""
        memory, threads = state
        if step == -1:
            if not any(mode == "on" and ticks > 0 for _, _, ticks, _, mode in threads):
                return None
            return memory, tuple((at, frame, ticks - (mode == "on" and ticks > 0), said, mode)
                                 for at, frame, ticks, said, mode in threads)
        found = self.after_thread(memory, step, threads[step])
        if found is None:
            return None
        return found[0], threads[:step] + (found[1],) + threads[step + 1:]

    def after_thread(self, memory, number, thread):
        at, frame, ticks, said, mode = thread
        if mode != "on":
            return None
        instruction = self.codes[number][at]
        if instruction[0] == "pause" and ticks > 0:
            return None
        if instruction[0] == "pause" and ticks == 0:
            return memory, self.gone_on(number, (at + 1, frame, -1, said, mode))
        limit = instruction[1] if instruction[0] == "pause" else instruction[2]
        if limit is not None and ticks == -1:
            try:
                return memory, (at, frame, ticks_of(evaluate_slots(limit, frame)), said, mode)
            except Fault as fault:
                return memory, (at, frame, ticks, said, fault.reason)
        many = self.locals[number]
        outcome = walk_block(instruction[1], list(frame), many, list(memory))
        if outcome.kind == "fault":
            return memory, (at, frame, ticks, said, outcome.reason)
        if outcome.kind == "retry":
            if limit is None or ticks > 0:
                return None
            return memory, self.gone_on(number, (instruction[3], frame, -1, said, mode))
        memory = tuple(outcome.writes.get(cell, value) for cell, value in enumerate(memory))
        frame = tuple(outcome.finals) + frame[many:]
        return memory, self.gone_on(number, (at + 1, frame, -1, said + tuple(outcome.later), mode))

    def ends(self, most):
        """A dict from all ends to an order that leads to each; None if there are more states than most."""
        orders = {self.first: ()}
        waiting = [self.first]
        found = {}
        for state in waiting:
            steps = [*range(len(self.codes)), -1]
            behind = [(step, self.after(state, step)) for step in steps]
            if all(other is None for _, other in behind):
                found.setdefault(self.end_of(state), orders[state])
            for step, other in behind:
                if other is not None and other not in orders:
                    orders[other] = (*orders[state], step)
                    waiting.append(other)
            if len(orders) > most:
                return None
        return found

    def end_of(self, state):
        memory, threads = state
        names = {"on": ("asleep",), "ended": ("ended",)}
        ends = tuple(names.get(mode, ("broken", mode)) for _, _, _, _, mode in threads)
        return memory, ends, tuple(said for _, _, _, said, _ in threads)
