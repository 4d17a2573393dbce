"""The tokens of a line."""

from handshaker.errors import TextError
from handshaker.names import LETTERS, LONGEST
from handshaker.values import is_value

DIGITS = "0123456789"
MOST_DIGITS = 10
SIGNS = ("<", "=", ">", "+", "-", "*", "/", "(", ")")
LONG_SIGNS = ("<=", ">=")


def tokens(line, number):
    """Return the tokens of a line, tuples (kind, text, column).

    The number is that of the line, for the TextError at the first incorrect piece.
    """
    found = []
    at = 0
    while at < len(line):
        if line[at] == " ":
            at += 1
        else:
            kind, text = _token(line, at, number)
            found.append((kind, text, at + 1))
            at += len(text)
    return found


def _token(line, at, number):
    """Return the kind and the text of the token that begins at an index of the line."""
    if line[at] in LETTERS:
        text = _row(line, at, LETTERS)
        if len(text) > LONGEST:
            raise TextError(number, at + 1, "word")
        return "word", text
    if line[at] in DIGITS:
        text = _row(line, at, DIGITS)
        if not _is_number(text):
            raise TextError(number, at + 1, "number")
        return "number", text
    if line[at:at + 2] in LONG_SIGNS:
        return "sign", line[at:at + 2]
    if line[at] in SIGNS:
        return "sign", line[at]
    raise TextError(number, at + 1, "character")


def _row(line, at, characters):
    """Return the longest piece from an index on that has these characters alone."""
    end = at
    while end < len(line) and line[end] in characters:
        end += 1
    return line[at:end]


def _is_number(digits):
    if len(digits) > MOST_DIGITS:
        return False
    if digits[0] == "0" and len(digits) > 1:
        return False
    return is_value(int(digits))
