"""Reading expressions, from the loosest operators to the tightest."""

COMPARISONS = {"<": "less", "<=": "atmost", "=": "same", ">": "less", ">=": "atmost"}
SUMS = {"+": "plus", "-": "minus"}
PRODUCTS = {"*": "times", "/": "over", "rest": "rest"}


def read_expression(line):
    """Read an expression from a line and return it."""
    whole = _read_and(line)
    while line.text() == "or":
        line.skip()
        whole = ("or", whole, _read_and(line))
    return whole


def read_index(line):
    """Read an index in parentheses if there is one, and return it; otherwise the index 0."""
    if line.text() == "(":
        return _read_parentheses(line)
    return ("number", 0)


def _read_and(line):
    whole = _read_not(line)
    while line.text() == "and":
        line.skip()
        whole = ("and", whole, _read_not(line))
    return whole


def _read_not(line):
    if line.text() != "not":
        return _read_comparison(line)
    line.begin_part()
    inner = _read_not(line)
    line.end_part()
    return ("not", inner)


def _read_comparison(line):
    first = _read_sum(line)
    sign = line.text()
    if sign not in COMPARISONS:
        return first
    line.skip()
    second = _read_sum(line)
    if sign == ">" or sign == ">=":
        first, second = second, first
    return (COMPARISONS[sign], first, second)


def _read_sum(line):
    whole = _read_product(line)
    while line.text() in SUMS:
        word = SUMS[line.text()]
        line.skip()
        whole = (word, whole, _read_product(line))
    return whole


def _read_product(line):
    whole = _read_sign(line)
    while line.text() in PRODUCTS:
        word = PRODUCTS[line.text()]
        line.skip()
        whole = (word, whole, _read_sign(line))
    return whole


def _read_sign(line):
    if line.text() != "-":
        return _read_atom(line)
    if line.is_number(1):
        return ("number", line.take_integer())
    line.begin_part()
    inner = _read_sign(line)
    line.end_part()
    return ("negative", inner)


def _read_atom(line):
    if line.is_number():
        return ("number", line.take_number())
    if line.text() == "(":
        return _read_parentheses(line)
    name = line.near_known_name()
    if name in line.variables:
        if line.text(1) == "(":
            line.fail("kind")
        line.skip()
        return ("local", name)
    if not line.in_block:
        line.fail("outside")
    line.skip()
    return ("cell", name, read_index(line))


def _read_parentheses(line):
    line.begin_part()
    inner = read_expression(line)
    line.take(")")
    line.end_part()
    return inner
