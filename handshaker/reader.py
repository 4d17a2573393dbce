"""Reading the text of a program."""

from handshaker.errors import TextError, TooLarge
from handshaker.forms import may_declare, may_stand, read_cell, read_statements
from handshaker.limits import MOST_CELLS, MOST_LOCALS, MOST_THREADS, are_within_limits, measure
from handshaker.lines import Line
from handshaker.syntax import Program, Thread

MOST_CHARACTERS = 20000


def read_program(text):
    """Return the program of a text; raise TooLarge or the TextError of the first error."""
    if len(text) > MOST_CHARACTERS:
        raise TooLarge("text")
    rows = text.split("\n")
    # A newline at the end begins no further line, and an empty text has none.
    if rows[-1] == "":
        rows.pop()
    reader = Reader()
    for number, row in enumerate(rows, start=1):
        reader.read_line(row, number)
    if reader.lists or not reader.threads:
        raise TextError(len(rows) + 1, 1, "end")
    return Program(reader.cells, reader.threads)


class OpenList:
    """A list whose lines are being read: its first word, and the list.

    A line with the word `turn`, if there is one, ends it and begins the list `other`.
    """

    def __init__(self, head, rows, in_block, turn=None, other=None):
        self.head = head
        self.rows = rows
        self.in_block = in_block
        self.turn = turn
        self.other = other


class Reader:
    """What has been read of a program so far."""

    def __init__(self):
        self.cells = []
        self.declared = {}
        self.threads = []
        self.name = None
        self.variables = {}
        self.statements = 0
        self.lists = []

    def read_line(self, text, number):
        """Read a line."""
        in_block = len(self.lists) > 0 and self.lists[-1].in_block
        line = Line(text, number, self.declared, self.variables, in_block)
        if line.is_over():
            return
        word = line.text()
        if not self.may_begin(word):
            line.fail("line")
        line.skip()
        if word == "thread":
            self.begin_thread(line)
        elif not self.lists:
            self.declare_cell(line, word)
        elif word == "local":
            self.declare_local(line)
        elif word == "end":
            self.end_list(line)
        elif word == self.lists[-1].turn:
            self.turn_list(line)
        else:
            self.add_statements(line, word)

    def may_begin(self, word):
        """Return True if a line that begins with this word can stand here."""
        if not self.lists:
            return word == "thread" or (not self.threads and may_declare(word))
        last = self.lists[-1]
        if word == "end":
            # Only behind its second list a choose has been read whole.
            return last.turn != "or"
        if word == "local":
            return last.head == "thread" and not last.rows
        return word == last.turn or may_stand(word, last.in_block)

    def declare_cell(self, line, word):
        """Read a line that declares cells."""
        cell, n = read_cell(line, word)
        line.finish()
        name, size, _ = cell
        if size < 1 or sum([many for _, many, _ in self.cells]) + size > MOST_CELLS:
            line.fail_whole("limit")
        self.cells.append(cell)
        self.declared[name] = (word, n)

    def begin_thread(self, line):
        """Read the line that begins a thread."""
        self.name = line.take_new_name([thread.name for thread in self.threads])
        line.finish()
        if len(self.threads) == MOST_THREADS:
            line.fail_whole("limit")
        self.variables = {}
        self.statements = 0
        self.lists = [OpenList("thread", [], False)]

    def declare_local(self, line):
        """Read a line that declares a local."""
        name = line.take_new_name(list(self.declared) + list(self.variables))
        line.take("=")
        first = line.take_integer()
        line.finish()
        if len(self.variables) == MOST_LOCALS:
            line.fail_whole("limit")
        self.variables[name] = first

    def end_list(self, line):
        """Read the line that ends a list, or the thread."""
        line.finish()
        last = self.lists.pop()
        if last.head == "thread":
            self.threads.append(Thread(self.name, list(self.variables.items()), last.rows))

    def turn_list(self, line):
        """Read a line that goes on from the first list of a statement to the second one."""
        line.finish()
        last = self.lists.pop()
        in_block = last.in_block and last.turn != "late"
        self.lists.append(OpenList(last.turn, last.other, in_block))

    def add_statements(self, line, word):
        """Read a line with a statement, or the first line of one that has lists."""
        statements = read_statements(line, word)
        line.finish()
        many, lists, repeats = measure(statements)
        around = [one for one in self.lists if one.head == "repeat"]
        self.statements += many
        if not are_within_limits(self.statements, len(self.lists) + lists, len(around) + repeats):
            line.fail_whole("limit")
        self.lists[-1].rows.extend(statements)
        if word in ("if", "repeat", "atomic", "choose"):
            self.begin_list(statements[0])

    def begin_list(self, statement):
        """Open the first list of a statement."""
        word = statement[0]
        in_block = self.lists[-1].in_block
        if word == "if":
            opened = OpenList(word, statement[2], in_block, "else", statement[3])
        elif word == "choose":
            opened = OpenList(word, statement[1], in_block, "or", statement[2])
        elif word == "block" and statement[1] is not None:
            opened = OpenList(word, statement[2], True, "late", statement[3])
        else:
            opened = OpenList(word, statement[2], in_block or word == "block")
        self.lists.append(opened)
