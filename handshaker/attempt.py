"""Tries: the code of a block, run once in single steps."""

from handshaker.walk import Walk


class Try(Walk):
    """A try of a thread, which begins at the present clock of the stripes."""

    def __init__(self, thread, code, frame, stripes):
        self.begin(code, frame)
        self.thread = thread
        self.start = stripes.clock
        self._stripes = stripes

    def may_read(self, cell):
        """Return True if the stripe of a cell is open for the thread at the start."""
        return self._stripes.is_open(self._stripes.stripe_of(cell), self.thread, self.start)

    def step(self, memory):
        """Do one step, if the try is going; return the state behind it."""
        if self.state == "going":
            self.advance(memory)
        return self.state


def run_try(memory, thread, code, frame, stripes):
    """Return a new try that was given steps until it was no longer going."""
    attempt = Try(thread, code, frame, stripes)
    while attempt.state == "going":
        attempt.step(memory)
    return attempt
