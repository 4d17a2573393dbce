"""Commits: what brings tries to their ends, in single steps."""


class Commit:
    """A commit of a try that is not going and not lost."""

    def __init__(self, attempt, stripes):
        self.stamp = None
        self.failed = False
        self.begun = False
        self._attempt = attempt
        self._stripes = stripes
        self._locked = []
        self._left = _steps_of(attempt, stripes)
        if ("tick",) not in self._left:
            self.stamp = attempt.start

    def next_step(self):
        """Return the next step, or None if the commit has ended."""
        return self._left[0] if self._left else None

    def step(self, memory):
        """Do the next step and return it; return None if the commit has ended."""
        step = self.next_step()
        if step is None:
            return None
        if self._do(step, memory):
            self._left = self._left[1:]
        else:
            self.failed = True
            self._left = [("free", stripe) for stripe in self._locked]
        self.begun = True
        return step

    def _do(self, step, memory):
        """Do a step; return False if the commit fails at it."""
        word = step[0]
        thread = self._attempt.thread
        if word == "lock":
            return self._lock(step[1])
        if word == "check":
            return self._stripes.is_open(step[1], thread, self._attempt.start)
        if word == "tick":
            self.stamp = self._stripes.tick()
        elif word == "write":
            memory[step[1]] = self._attempt.log[step[1]]
        elif word == "stamp":
            self._stripes.stamp(step[1], thread, self.stamp)
        elif word == "free":
            self._stripes.free(step[1], thread)
        return True

    def _lock(self, stripe):
        if not self._stripes.lock(stripe, self._attempt.thread):
            return False
        self._locked.append(stripe)
        return True


def _steps_of(attempt, stripes):
    """Return the steps of a commit that does not fail."""
    checks = [("check", stripe) for stripe in stripes.stripes_of(attempt.reads)]
    # The log of a try that is not done is thrown away.
    if attempt.state != "done" or len(attempt.log) == 0:
        return checks
    written = stripes.stripes_of(attempt.log)
    locks = [("lock", stripe) for stripe in written]
    writes = [("write", cell) for cell in sorted(attempt.log)]
    stamps = [("stamp", stripe) for stripe in written]
    return [*locks, ("tick",), *checks, *writes, ("wake",), *stamps]


def run_commit(memory, attempt, stripes):
    """Return a new commit that was given steps until it had ended."""
    commit = Commit(attempt, stripes)
    while commit.next_step() is not None:
        commit.step(memory)
    return commit
