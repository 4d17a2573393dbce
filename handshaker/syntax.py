"""Programs and their threads."""

from handshaker.limits import MOST_CELLS, MOST_LOCALS, MOST_THREADS, are_within_limits, measure
from handshaker.names import is_name
from handshaker.parts import expressions_of, lists_of, parts_of
from handshaker.values import is_value


class Thread:
    """A thread: its name, its locals with their first values, and its statements."""

    def __init__(self, name, variables, body):
        self.name = name
        self.variables = list(variables)
        self.body = list(body)


class Program:
    """A program: its cells and its threads."""

    def __init__(self, cells, threads):
        self.cells = list(cells)
        self.threads = list(threads)


def same_program(program, other):
    """Return True if all cells and all attributes of all threads are equal."""
    return _is_same(_plain(program), _plain(other))


def _plain(program):
    threads = [(thread.name, thread.variables, thread.body) for thread in program.threads]
    return [program.cells, threads]


def _is_same(one, other):
    """Return True if two values made of lists and tuples are equal.

    Expressions may be too deep for Python to compare them itself.
    """
    pairs = [(one, other)]
    while pairs:
        left, right = pairs.pop()
        if _shape(left) != _shape(right):
            return False
        if _shape(left) == "plain":
            if left != right:
                return False
        elif len(left) != len(right):
            return False
        else:
            pairs.extend(list(zip(left, right)))
    return True


def _shape(value):
    if isinstance(value, list):
        return "list"
    if isinstance(value, tuple):
        return "tuple"
    return "plain"


def is_let_by(program):
    """Return True if a program is let by: its names, values, sizes and limits are right."""
    names = [thread.name for thread in program.threads]
    if len(names) < 1 or len(names) > MOST_THREADS or not _are_different_names(names):
        return False
    if not _are_cells_let_by(program.cells):
        return False
    known = [name for name, _, _ in program.cells]
    return all([_is_thread_let_by(thread, known) for thread in program.threads])


def _are_different_names(names):
    if len(set(names)) != len(names):
        return False
    return all([is_name(name) for name in names])


def _are_cells_let_by(cells):
    if not _are_different_names([name for name, _, _ in cells]):
        return False
    if not all([size >= 1 and is_value(first) for _, size, first in cells]):
        return False
    return sum([size for _, size, _ in cells]) <= MOST_CELLS


def _is_thread_let_by(thread, cells):
    variables = [name for name, _ in thread.variables]
    if len(variables) > MOST_LOCALS or not _are_different_names(variables):
        return False
    if not all([name not in cells and is_value(first) for name, first in thread.variables]):
        return False
    many, lists, repeats = measure(thread.body)
    if not are_within_limits(many, lists + 1, repeats):
        return False
    return _are_statements_let_by(thread.body, variables, cells)


def _are_statements_let_by(body, variables, cells):
    """Return True if all locals, cells and numbers in the statements of a thread are right."""
    waiting = [(body, False)]
    while waiting:
        statements, in_block = waiting.pop()
        # Outside of the body of a block no cell may stand, as if there were none.
        near = cells if in_block else []
        for statement in statements:
            if not _is_statement_let_by(statement, variables, near):
                return False
            inner = lists_of(statement)
            if statement[0] == "block":
                waiting.append((inner[0], True))
                waiting.append((inner[1], False))
            else:
                waiting.extend([(one, in_block) for one in inner])
    return True


def _is_statement_let_by(statement, variables, cells):
    if statement[0] == "set" and statement[1] not in variables:
        return False
    if statement[0] == "put" and statement[1] not in cells:
        return False
    return all([_is_expression_let_by(one, variables, cells) for one in expressions_of(statement)])


def _is_expression_let_by(expression, variables, cells):
    waiting = [expression]
    while waiting:
        part = waiting.pop()
        if part[0] == "number" and not is_value(part[1]):
            return False
        if part[0] == "local" and part[1] not in variables:
            return False
        if part[0] == "cell" and part[1] not in cells:
            return False
        waiting.extend(parts_of(part))
    return True
