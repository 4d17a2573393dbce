"""The expressions and lists of which expressions and statements are made."""


def parts_of(expression):
    """Return the tuple of the expressions that stand directly in an expression."""
    word = expression[0]
    if word == "number" or word == "local":
        return ()
    if word == "cell":
        return expression[2:]
    return expression[1:]
