"""A line of a text that is read token by token, and the errors at its tokens."""

from handshaker.errors import TextError
from handshaker.lexer import tokens
from handshaker.names import is_name

MOST_OPEN = 20


class Line:
    """The tokens of a line, with what is declared ahead of it.

    `cells` are the names of cells, each with the word that declared it and its number;
    `variables` are the names of the thread's locals.
    """

    def __init__(self, text, number, cells, variables, in_block):
        self.number = number
        self.found = tokens(text, number)
        self.behind = len(text) + 1
        self.place = 0
        self.many_open = 0
        self.cells = cells
        self.variables = variables
        self.in_block = in_block

    def is_over(self):
        """Return True if no token is left."""
        return self.place == len(self.found)

    def text(self, ahead=0):
        """Return the text of the token, or of one behind it; "" if there is none."""
        if self.place + ahead < len(self.found):
            return self.found[self.place + ahead][1]
        return ""

    def is_number(self, ahead=0):
        """Return True if the token, or one behind it, is a number."""
        at = self.place + ahead
        return at < len(self.found) and self.found[at][0] == "number"

    def near_column(self):
        """Return the column of the token, or that behind the line if there is none."""
        if self.is_over():
            return self.behind
        return self.found[self.place][2]

    def fail(self, reason):
        """Raise the error with this reason at the token."""
        raise TextError(self.number, self.near_column(), reason)

    def fail_whole(self, reason):
        """Raise the error with this reason at the first token."""
        raise TextError(self.number, self.found[0][2], reason)

    def skip(self):
        """Go on behind the token."""
        self.place += 1

    def take(self, text):
        """Read a token that is due."""
        if self.text() != text:
            self.fail("expected")
        self.skip()

    def finish(self):
        """Raise the error if a token is left."""
        if not self.is_over():
            self.fail("expected")

    def begin_part(self):
        """Read a parenthesis, `not` or sign, which is open until end_part is called."""
        self.many_open += 1
        if self.many_open > MOST_OPEN:
            self.fail("deep")
        self.skip()

    def end_part(self):
        """Close what was opened last."""
        self.many_open -= 1

    def take_number(self):
        """Read a number and return it."""
        if not self.is_number():
            self.fail("expected")
        number = int(self.text())
        self.skip()
        return number

    def take_integer(self):
        """Read a number that a minus sign may precede, and return it."""
        if self.text() == "-":
            self.skip()
            return -self.take_number()
        return self.take_number()

    def near_name(self):
        """Return the name that is due, without going on behind it."""
        if not is_name(self.text()):
            self.fail("expected")
        return self.text()

    def take_new_name(self, taken):
        """Read a name that is declared and return it."""
        name = self.near_name()
        if name in taken:
            self.fail("twice")
        self.skip()
        return name

    def near_known_name(self):
        """Return the name of a cell or local that is due, without going on behind it."""
        name = self.near_name()
        if name not in self.cells and name not in self.variables:
            self.fail("unknown")
        return name

    def take_local(self):
        """Read the name of a local and return it."""
        name = self.near_known_name()
        if name not in self.variables:
            self.fail("kind")
        self.skip()
        return name

    def take_cell(self):
        """Read the name of a cell and return it."""
        name = self.near_known_name()
        if name not in self.cells:
            self.fail("kind")
        self.skip()
        return name

    def take_made(self, word):
        """Read a name that was declared by a line with this first word, and return it."""
        name = self.near_known_name()
        if name not in self.cells or self.cells[name][0] != word:
            self.fail("kind")
        self.skip()
        return name
