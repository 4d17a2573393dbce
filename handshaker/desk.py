"""The desk: obeys lines, and answers them."""

from handshaker.commands import Kept, do_line
from handshaker.errors import InvalidLine, Refused

LONGEST = 200


class Desk:
    """A desk, which has obeyed nothing at first."""

    def __init__(self):
        self._kept = Kept()
        self._lines = []

    def obey(self, line):
        """Obey a line, unless it is refused; return the answer, a list of lines."""
        if len(line) > LONGEST or not all([" " <= character <= "~" for character in line]):
            raise InvalidLine(line)
        try:
            answer = do_line(self._kept, line)
        except Refused as refused:
            return ["refused " + refused.reason]
        self._lines.append(line)
        return answer

    def lines(self):
        """Return the list of the lines that were obeyed; refused ones were not."""
        return list(self._lines)

    def picks(self):
        """Return the list of the picks of the machine."""
        return list(self._kept.picks)


def answers_of(lines):
    """Return the list of the answers of a new desk to these lines."""
    desk = Desk()
    return [desk.obey(line) for line in lines]
