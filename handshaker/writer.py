"""Writing programs and expressions."""

from handshaker.parts import parts_of

OPERATORS = {
    "plus": "+",
    "minus": "-",
    "times": "*",
    "over": "/",
    "rest": "rest",
    "less": "<",
    "atmost": "<=",
    "same": "=",
    "and": "and",
    "or": "or",
}


def write_program(program):
    """Return the text of a program, with a newline at the end of each line."""
    lines = [_cell_line(name, size, first) for name, size, first in program.cells]
    for thread in program.threads:
        lines.append("thread " + thread.name)
        lines.extend([f"  local {name} = {first}" for name, first in thread.variables])
        lines.extend(_list_lines(thread.body, "  "))
        lines.append("end")
    return "".join([line + "\n" for line in lines])


def _cell_line(name, size, first):
    if size == 1:
        return f"cell {name} = {first}"
    return f"cell {name} {size} = {first}"


def _list_lines(statements, indent):
    """Return the lines of a list of statements."""
    lines = []
    for statement in statements:
        sections = _sections(statement)
        if not sections:
            lines.append(indent + _simple_line(statement))
        else:
            for head, inner in sections:
                lines.append(indent + head)
                lines.extend(_list_lines(inner, indent + "  "))
            lines.append(indent + "end")
    return lines


def _sections(statement):
    """Return the pairs of a line and the list behind it that make a statement; none if it has no lists."""
    word = statement[0]
    if word == "repeat":
        return [("repeat " + write_expression(statement[1]), statement[2])]
    if word == "choose":
        return [("choose", statement[1]), ("or", statement[2])]
    if word == "if":
        head = "if " + write_expression(statement[1])
        return [(head, statement[2])] + _section_if_needed("else", statement[3])
    if word == "block":
        head = "atomic"
        if statement[1] is not None:
            head = "atomic within " + write_expression(statement[1])
        return [(head, statement[2])] + _section_if_needed("late", statement[3])
    return []


def _section_if_needed(head, statements):
    return [(head, statements)] if statements else []


def _simple_line(statement):
    """Return the line of a statement without lists."""
    word = statement[0]
    if word == "retry" or word == "undo":
        return word
    if word == "set":
        return "set " + statement[1] + " = " + write_expression(statement[2])
    if word == "put":
        target = write_expression(("cell", statement[1], statement[2]))
        return "put " + target + " = " + write_expression(statement[3])
    return word + " " + write_expression(statement[1])


def write_expression(expression):
    """Return the written form of an expression."""
    # Expressions may be too deep for calls within calls: so what is still to be
    # written stands in a list, from right to left.
    written = []
    waiting = [expression]
    while waiting:
        part = waiting.pop()
        if isinstance(part, str):
            written.append(part)
        else:
            waiting.extend(_pieces(part)[::-1])
    return "".join(written)


def _pieces(expression):
    """Return the strings and expressions that make the written form of an expression."""
    word = expression[0]
    if word == "number":
        return [str(expression[1])]
    if word == "local":
        return [expression[1]]
    if word == "cell":
        if expression[2] == ("number", 0):
            return [expression[1]]
        return [expression[1], "(", expression[2], ")"]
    inner = parts_of(expression)
    if word == "not":
        return ["not "] + _part(inner[0])
    if word == "negative":
        # Without parentheses the sign would be that of a number below 0.
        if inner[0][0] == "number":
            return ["-", "(", inner[0], ")"]
        return ["-"] + _part(inner[0])
    return _part(inner[0]) + [" " + OPERATORS[word] + " "] + _part(inner[1])


def _part(expression):
    """Return the pieces of a part of an expression, in parentheses where it is written by an operator."""
    word = expression[0]
    if word == "local" or word == "cell" or (word == "number" and expression[1] >= 0):
        return [expression]
    return ["(", expression, ")"]
