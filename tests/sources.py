"""The plain machine for the tests once more: by statements, without flat code.

The state of a thread is what has been answered to it so far, with the ticks that are
left. So there may be several states for one of the package; orders and ends are the same.
"""

from handshaker.errors import Fault
from handshaker.plain import run_block
from handshaker.values import evaluate, first_memory


def course(statements, variables):
    """What a thread does: ("say", value), ("pause", expression, locals), ("block", statement, locals).

    To a block its outcome is sent, or None if the limit is used up. A fault is raised.
    """
    for statement in statements:
        word = statement[0]
        if word == "set":
            variables[statement[1]] = evaluate(statement[2], variables)
        elif word == "say":
            yield word, evaluate(statement[1], variables)
        elif word == "pause":
            yield word, statement[1], dict(variables)
        elif word == "if":
            yield from course(statement[2 if evaluate(statement[1], variables) else 3], variables)
        elif word == "repeat":
            times = evaluate(statement[1], variables)
            if not 0 <= times <= 20:
                raise Fault("count")
            for _ in range(times):
                yield from course(statement[2], variables)
        else:
            finals = yield word, statement, dict(variables)
            if finals is None:
                yield from course(statement[3], variables)
            else:
                variables.update(zip(list(variables), finals))


class Place:
    """Where a thread is behind some answers."""

    def __init__(self, thread, answers):
        self.said = []
        self.mode = "on"
        self.word = None
        steps = course(thread.body, dict(thread.variables))
        left = list(answers)
        answer = None
        try:
            while True:
                step = steps.send(answer)
                answer = None
                if step[0] == "say":
                    self.said.append(step[1])
                elif not left:
                    self.word, self.what, self.variables = step
                    break
                else:
                    answer, later = left.pop(0)
                    self.said += later
        except StopIteration:
            self.mode = "ended"
        except Fault as fault:
            self.mode = fault.reason
        assert not left

    def ticks(self):
        """The expression for the ticks, or None."""
        return self.what if self.word == "pause" else self.what[1]


class SourceWorld:
    """All states of a program; a thread's is (answers, ticks, fault of a step or None)."""

    def __init__(self, program):
        self.program = program
        self.places = {}
        self.first = (tuple(first_memory(program.cells)), ((((), -1, None)),) * len(program.threads))

    def place(self, number, answers):
        if (number, answers) not in self.places:
            self.places[number, answers] = Place(self.program.threads[number], answers)
        return self.places[number, answers]

    def mode(self, number, thread):
        return thread[2] or self.place(number, thread[0]).mode

    def said(self, number, thread):
        return tuple(self.place(number, thread[0]).said)

    def after(self, state, step):
        """The state behind a step, or None if it is not possible."""
        memory, threads = state
        on = [self.mode(number, thread) == "on" for number, thread in enumerate(threads)]
        if step == "tick":
            if not any(here and thread[1] > 0 for here, thread in zip(on, threads)):
                return None
            return memory, tuple((thread[0], thread[1] - 1, None) if here and thread[1] > 0 else thread
                                 for here, thread in zip(on, threads))
        if not on[step]:
            return None
        found = self.after_thread(list(memory), step, *threads[step])
        if found is None:
            return None
        return tuple(found[0]), threads[:step] + (found[1],) + threads[step + 1:]

    def after_thread(self, memory, number, answers, ticks, _):
        place = self.place(number, answers)
        expression = place.ticks()
        if expression is not None and ticks == -1:
            try:
                ticks = evaluate(expression, place.variables)
                return memory, ((answers, ticks, None) if 0 <= ticks <= 1000 else (answers, -1, "count"))
            except Fault as fault:
                return memory, (answers, -1, fault.reason)
        if place.word == "pause":
            return None if ticks else (memory, ((*answers, (None, ())), -1, None))
        outcome = run_block(place.what[2], self.program.cells, list(place.variables.items()), memory)
        if outcome.kind == "fault":
            return memory, (answers, ticks, outcome.reason)
        if outcome.kind == "retry":
            if expression is None or ticks:
                return None
            return memory, ((*answers, (None, ())), -1, None)
        for cell, value in outcome.writes.items():
            memory[cell] = value
        return memory, ((*answers, (tuple(outcome.finals), tuple(outcome.later))), -1, None)

    def moves(self, state):
        steps = [*range(len(self.program.threads)), "tick"]
        found = [(step, self.after(state, step)) for step in steps]
        return [(step, behind) for step, behind in found if behind is not None]

    def end_of(self, state):
        ends = {"on": ("asleep",), "ended": ("ended",)}
        modes = [self.mode(number, thread) for number, thread in enumerate(state[1])]
        said = tuple(self.said(number, thread) for number, thread in enumerate(state[1]))
        return state[0], tuple(ends.get(mode, ("broken", mode)) for mode in modes), said

    def ends(self, most):
        """The list of pairs (end, least of the shortest orders); None if there are more states than most."""
        ways = {self.first: []}
        layer = [self.first]
        found = {}
        while layer:
            below = []
            for state in layer:
                moves = self.moves(state)
                if not moves:
                    found.setdefault(self.end_of(state), ways[state])
                for step, behind in moves:
                    if behind not in ways:
                        ways[behind] = [*ways[state], step]
                        below.append(behind)
            if len(ways) > most:
                return None
            layer = below
        return list(found.items())
