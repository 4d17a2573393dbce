"""Threads for the tests: run by their statements, and by their code."""

from handshaker.errors import Fault
from handshaker.plain import run_block
from handshaker.values import evaluate
from handshaker.walk import evaluate_slots, walk_block


def course(thread):
    """What a thread does, statement by statement.

    These are ("say", value), ("pause", ticks), ("block", statement, ticks, locals). To a
    block it is sent the outcome, or None if the limit is used up. A fault is raised.
    Nothing of the flat code is used here.
    """
    locals_now = dict(thread.variables)
    yield from course_of_list(thread.body, locals_now)


def course_of_list(statements, locals_now):
    for statement in statements:
        word = statement[0]
        if word == "set":
            locals_now[statement[1]] = evaluate(statement[2], locals_now)
        elif word == "say":
            yield word, evaluate(statement[1], locals_now)
        elif word == "pause":
            yield word, ticks_of(evaluate(statement[1], locals_now))
        elif word == "if":
            yield from course_of_list(statement[2 if evaluate(statement[1], locals_now) else 3], locals_now)
        elif word == "repeat":
            times = evaluate(statement[1], locals_now)
            if not 0 <= times <= 20:
                raise Fault("count")
            for _ in range(times):
                yield from course_of_list(statement[2], locals_now)
        else:
            ticks = None if statement[1] is None else ticks_of(evaluate(statement[1], locals_now))
            outcome = yield word, statement, ticks, list(locals_now.items())
            if outcome is None:
                yield from course_of_list(statement[3], locals_now)
            elif outcome.kind == "fault":
                raise Fault(outcome.reason)
            else:
                locals_now.update(zip(list(locals_now), outcome.finals))


def ticks_of(value):
    if not 0 <= value <= 1000:
        raise Fault("count")
    return value


def alone_by_statements(thread, cells, memory):
    """What a thread does that nobody disturbs: the list of what happens."""
    memory = list(memory)
    found = []
    steps = course(thread)
    answer = None
    try:
        while True:
            step = steps.send(answer)
            answer = None
            if step[0] != "block":
                found.append(step)
                continue
            answer = run_block(step[1][2], cells, step[3], memory)
            found.append(("block", step[2], vars(answer)))
            if answer.kind == "retry":
                if step[2] is None:
                    return found
                answer = None
            else:
                take_over(answer, memory, found)
    except Fault as fault:
        return [*found, ("fault", fault.reason)]
    except StopIteration:
        return [*found, ("ended",)]


def take_over(outcome, memory, found):
    for cell, value in outcome.writes.items():
        memory[cell] = value
    found.extend([("said", value) for value in outcome.later])


def alone_by_code(code, frame, many, memory):
    """The same by the code of the thread, with so many locals."""
    memory = list(memory)
    frame = list(frame)
    found = []
    at = 0
    try:
        while at < len(code):
            at = step_of_code(code[at], at, frame, many, memory, found)
            if at is None:
                return found
    except Fault as fault:
        return [*found, ("fault", fault.reason)]
    return [*found, ("ended",)]


def step_of_code(instruction, at, frame, many, memory, found):
    """Do an instruction; return where it goes on, or None if the thread sleeps."""
    word = instruction[0]
    if word == "jump":
        return instruction[1]
    if word == "unless":
        return at + 1 if evaluate_slots(instruction[1], frame) else instruction[2]
    if word == "say":
        found.append((word, evaluate_slots(instruction[1], frame)))
    elif word == "pause":
        found.append((word, ticks_of(evaluate_slots(instruction[1], frame))))
    elif word == "block":
        return block_of_code(instruction, at, frame, many, memory, found)
    else:
        value = evaluate_slots(instruction[2], frame)
        if word == "count" and not 0 <= value <= 20:
            raise Fault("count")
        frame[instruction[1]] = value
    return at + 1


def block_of_code(instruction, at, frame, many, memory, found):
    _, code, limit, to = instruction
    ticks = None if limit is None else ticks_of(evaluate_slots(limit, frame))
    outcome = walk_block(code, frame, many, memory)
    found.append(("block", ticks, vars(outcome)))
    if outcome.kind == "fault":
        raise Fault(outcome.reason)
    if outcome.kind == "retry":
        return None if limit is None else to
    take_over(outcome, memory, found)
    frame[:many] = outcome.finals
    # What a block leaves in the temporary slots that it uses must not matter.
    for part in code:
        if part[0] in ("set", "load", "count") and part[1] >= many:
            frame[part[1]] = 13
    return at + 1
