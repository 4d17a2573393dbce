"""The forms of the lines that declare cells, and of those that begin statements."""

from handshaker.errors import InvalidCount, TextError
from handshaker.expressions import read_expression, read_index
from handshaker.library import barrier, channel, exchange, give, meet, receive, semaphore, send, swap, take


def read_cell(line, word):
    """Read a line that declares cells; return their tuple, and the N of the line (0 if it has none)."""
    name = line.take_new_name(line.cells)
    if word == "exchange":
        return exchange(name), 0
    if word == "cell":
        return _read_plain_cell(line, name), 0
    column = line.near_column()
    n = line.take_integer()
    try:
        return _counted_cell(word, name, n), n
    except InvalidCount:
        raise TextError(line.number, column, "range") from None


def _read_plain_cell(line, name):
    size = 1
    if line.text() != "=":
        size = line.take_integer()
    line.take("=")
    return (name, size, line.take_integer())


def _counted_cell(word, name, n):
    if word == "semaphore":
        return semaphore(name, n)
    if word == "barrier":
        return barrier(name, n)
    return channel(name, n)


def read_statements(line, word):
    """Read a line that begins with a word; return the statements for which it stands."""
    if line.in_block:
        read = BLOCK_FORMS[word]
    else:
        read = THREAD_FORMS[word]
    return read(line)


def may_stand(word, in_block):
    """Return True if a statement may begin with a word, within a block or outside."""
    if in_block:
        return word in BLOCK_FORMS
    return word in THREAD_FORMS


def may_declare(word):
    """Return True if a line that begins with a word declares cells."""
    return word in ("cell", "semaphore", "barrier", "channel", "exchange")


def _read_set(line):
    name = line.take_local()
    line.take("=")
    return [("set", name, read_expression(line))]


def _read_put(line):
    name = line.take_cell()
    index = read_index(line)
    line.take("=")
    return [("put", name, index, read_expression(line))]


def _read_say(line):
    return [("say", read_expression(line))]


def _read_pause(line):
    return [("pause", read_expression(line))]


def _read_later(line):
    return [("later", read_expression(line))]


def _read_retry(line):
    return [("retry",)]


def _read_undo(line):
    return [("undo",)]


def _read_if(line):
    return [("if", read_expression(line), [], [])]


def _read_repeat(line):
    return [("repeat", read_expression(line), [])]


def _read_atomic(line):
    limit = None
    if line.text() == "within":
        line.skip()
        limit = read_expression(line)
    return [("block", limit, [], [])]


def _read_choose(line):
    return [("choose", [], [])]


def _read_take(line):
    return take(line.take_made("semaphore"))


def _read_give(line):
    return give(line.take_made("semaphore"))


def _read_meet(line):
    name = line.take_made("barrier")
    return meet(name, line.cells[name][1], line.take_local())


def _read_send(line):
    name = line.take_made("channel")
    return send(name, line.cells[name][1], read_expression(line))


def _read_receive(line):
    name = line.take_made("channel")
    return receive(name, line.cells[name][1], line.take_local())


def _read_swap(line):
    name = line.take_made("exchange")
    x = line.take_local()
    return swap(name, x, line.take_local())


THREAD_FORMS = {
    "set": _read_set,
    "say": _read_say,
    "pause": _read_pause,
    "if": _read_if,
    "repeat": _read_repeat,
    "atomic": _read_atomic,
    "take": _read_take,
    "give": _read_give,
    "meet": _read_meet,
    "send": _read_send,
    "receive": _read_receive,
    "swap": _read_swap,
}

BLOCK_FORMS = {
    "set": _read_set,
    "put": _read_put,
    "later": _read_later,
    "retry": _read_retry,
    "undo": _read_undo,
    "if": _read_if,
    "repeat": _read_repeat,
    "choose": _read_choose,
}
