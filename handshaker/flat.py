"""Flat code: blocks and threads as lists of instructions."""

from handshaker.coder import Coder, flat_expression
from handshaker.parts import occurs


def has_cells(expression):
    """Return True if a cell occurs in the expression."""
    return occurs("cell", expression)


def flat_block(body, cells, names):
    """Return the code of a block, and the number of slots of its frame; names are those of the locals."""
    coder = Coder(cells, names, len(names))
    _write_list(coder, body)
    return coder.code, coder.count


def flat_thread(thread, cells):
    """Return the code of a thread, and the number of slots of its frame."""
    return flat_block(thread.body, cells, [name for name, _ in thread.variables])


def _write_list(coder, statements):
    for statement in statements:
        low = coder.low
        write = FORMS[statement[0]]
        write(coder, statement)
        coder.low = low


def _write_set(coder, statement):
    value = flat_expression(coder, statement[2])
    coder.emit(("set", coder.names.index(statement[1]), value))


def _write_put(coder, statement):
    index = flat_expression(coder, statement[2])
    if has_cells(statement[3]):
        index = coder.kept(index)
    value = flat_expression(coder, statement[3])
    first, size = coder.places[statement[1]]
    coder.emit(("put", first, size, index, value))


def _write_value(coder, statement):
    coder.emit((statement[0], flat_expression(coder, statement[1])))


def _write_word(coder, statement):
    coder.emit(statement)


def _write_if(coder, statement):
    fork = coder.emit(("unless", flat_expression(coder, statement[1]), None))
    _write_list(coder, statement[2])
    _write_other_way(coder, fork, statement[3])


def _write_choose(coder, statement):
    fork = coder.emit(("try", None))
    _write_list(coder, statement[1])
    coder.emit(("kept",))
    _write_other_way(coder, fork, statement[2])


def _write_repeat(coder, statement):
    slot = coder.new_slot()
    coder.emit(("count", slot, flat_expression(coder, statement[1])))
    fork = coder.emit(("unless", ("slot", slot), None))
    _write_list(coder, statement[2])
    # Where a frame from elsewhere has another number, a repeat shall be over soon, too.
    coder.emit(("count", slot, ("minus", ("slot", slot), ("number", 1))))
    coder.emit(("jump", fork))
    coder.land(fork)


def _write_block(coder, statement):
    _, limit, body, late = statement
    # The frame of a block that is done becomes the thread's: so a block's
    # temporary slots are none that the thread still needs.
    inner = Coder(coder.cells, coder.names, coder.low)
    _write_list(inner, body)
    coder.count = max(coder.count, inner.count)
    if limit is not None:
        limit = flat_expression(coder, limit)
    fork = coder.emit(("block", inner.code, limit, None))
    _write_other_way(coder, fork, late)


def _write_other_way(coder, fork, statements):
    """Write the statements to which the instruction `fork` leads, past which the code so far goes on."""
    if len(statements) == 0:
        coder.land(fork)
        return
    jump = coder.emit(("jump", None))
    coder.land(fork)
    _write_list(coder, statements)
    coder.land(jump)


FORMS = {
    "set": _write_set,
    "put": _write_put,
    "say": _write_value,
    "pause": _write_value,
    "later": _write_value,
    "retry": _write_word,
    "undo": _write_word,
    "if": _write_if,
    "choose": _write_choose,
    "repeat": _write_repeat,
    "block": _write_block,
}
