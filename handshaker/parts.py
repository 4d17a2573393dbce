"""The expressions and lists of which expressions and statements are made."""

LEAVES = ("number", "local", "slot")


def parts_of(expression):
    """Return the tuple of the expressions that stand directly in an expression."""
    word = expression[0]
    if word in LEAVES:
        return ()
    if word == "cell":
        return expression[2:]
    return expression[1:]


def occurs(word, expression):
    """Return True if an expression with this word stands in an expression, or is the expression."""
    waiting = [expression]
    while waiting:
        part = waiting.pop()
        if part[0] == word:
            return True
        waiting.extend(parts_of(part))
    return False


def expressions_of(statement):
    """Return the tuple of the expressions that stand directly in a statement."""
    word = statement[0]
    if word == "set" or word == "put":
        return statement[2:]
    if word == "say" or word == "pause" or word == "later":
        return statement[1:]
    if word == "if" or word == "repeat":
        return statement[1:2]
    if word == "block" and statement[1] is not None:
        return statement[1:2]
    return ()


def lists_of(statement):
    """Return the tuple of the lists that stand directly in a statement."""
    word = statement[0]
    if word == "if" or word == "repeat" or word == "block":
        return statement[2:]
    if word == "choose":
        return statement[1:]
    return ()
