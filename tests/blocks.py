"""Blocks for the tests: read from texts, run whole, and walked."""

from handshaker.flat import flat_block
from handshaker.plain import run_block, same_outcome
from handshaker.reader import read_program
from handshaker.walk import walk_block

CELLS = [("a", 1, 5), ("b", 3, 0)]
LOCALS = [("x", 2), ("y", -1)]
MEMORY = [5, 10, 20, 30]
HEAD = "cell a = 5\ncell b 3 = 0\nthread one\nlocal x = 2\nlocal y = -1\n"
BLOCK_WORDS = {
    "set": 3, "load": 5, "put": 5, "jump": 2, "unless": 3, "count": 3, "try": 2, "kept": 1, "retry": 1, "undo": 1,
    "later": 2,
}
THREAD_WORDS = {"set": 3, "say": 2, "pause": 2, "jump": 2, "unless": 3, "count": 3, "block": 4}


def body_of(text):
    """The statements of a block with these lines, for CELLS and LOCALS."""
    return read_program(HEAD + "atomic\n" + text + "\nend\nend\n").threads[0].body[0][2]


def expression_of(text):
    """An expression of a block, for CELLS and LOCALS."""
    return body_of("later " + text)[0][1]


def both(case, body, cells=CELLS, locals_now=LOCALS, memory=MEMORY):
    """The outcome of a block, run whole; the walk of its code has the same one, and nothing that is passed changes."""
    passed = [body, cells, locals_now, memory]
    before = snapshot(passed)
    outcome = run_block(body, cells, locals_now, memory)
    names = [name for name, _ in locals_now]
    code, count = flat_block(body, cells, names)
    case.assertEqual(names, [name for name, _ in locals_now])
    check_code(case, code, count, BLOCK_WORDS)
    case.assertGreaterEqual(count, len(names))
    for value in (0, 1, -7, 1000000000):
        frame = [one for _, one in locals_now] + [value] * (count - len(names))
        old = list(frame)
        walked = walk_block(code, frame, len(names), memory)
        case.assertEqual(vars(walked), vars(outcome))
        case.assertIs(same_outcome(walked, outcome), True)
        case.assertEqual(frame, old)
    case.assertEqual(passed, before)
    return outcome


def snapshot(value):
    """A copy of all lists; what else there is cannot change, and expressions may be too deep to copy."""
    if isinstance(value, list):
        return [snapshot(one) for one in value]
    if isinstance(value, tuple) and any(isinstance(one, list) for one in value):
        return tuple(snapshot(one) for one in value)
    return value


def check_code(case, code, count, words):
    """Code has these instructions alone, whose slots, numbers and positions exist."""
    case.assertIsInstance(code, list)
    for instruction in code:
        case.assertIsInstance(instruction, tuple)
        word = instruction[0]
        case.assertEqual(len(instruction), words.get(word), instruction)
        if word in ("jump", "unless", "try", "block"):
            case.assertTrue(0 <= instruction[-1] <= len(code), instruction)
        if word in ("set", "load", "count"):
            case.assertTrue(0 <= instruction[1] < count, instruction)
        if word == "block":
            check_code(case, instruction[1], count, BLOCK_WORDS)
            if instruction[2] is not None:
                check_flat_expression(case, instruction[2], count)
        elif word == "unless":
            check_flat_expression(case, instruction[1], count)
        elif word == "put":
            check_flat_expression(case, instruction[3], count)
            check_flat_expression(case, instruction[4], count)
        elif word in ("set", "load", "count", "say", "pause", "later"):
            check_flat_expression(case, instruction[-1], count)


def check_flat_expression(case, expression, count):
    waiting = [expression]
    while waiting:
        part = waiting.pop()
        case.assertNotIn(part[0], ("local", "cell"))
        if part[0] == "slot":
            case.assertTrue(0 <= part[1] < count, part)
        elif part[0] != "number":
            waiting.extend(part[1:])
