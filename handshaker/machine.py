"""The machine: threads that run in small steps."""

from handshaker.errors import NotAtRest, UnknownThread
from handshaker.runner import Runner
from handshaker.stripes import Stripes
from handshaker.values import first_memory

TICK = -1


class Record:
    """What is kept of a try that has ended."""

    def __init__(self, thread, begun, ended, kind, reads, writes, stamp):
        self.thread = thread
        self.begun = begun
        self.ended = ended
        self.kind = kind
        self.reads = dict(reads)
        self.writes = dict(writes)
        self.stamp = stamp


class Machine:
    """A machine of a program, with so many stripes."""

    def __init__(self, program, *, stripes=4):
        self._stripes = Stripes(stripes)
        self._memory = first_memory(program.cells)
        self._runners = [Runner(at, thread, program.cells) for at, thread in enumerate(program.threads)]
        self._records = []
        self._moment = 0

    def step(self, thread):
        """Do a step of a thread; return True if it did anything."""
        runner = self._runner(thread)
        if not runner.can_step():
            return False
        self._advance(runner)
        self._moment += 1
        return True

    def tick(self):
        """Return True if a tick was possible, and do it."""
        ticking = [runner for runner in self._runners if runner.left > 0]
        if len(ticking) == 0:
            return False
        for runner in ticking:
            runner.left -= 1
            if runner.stage == "asleep" and runner.left == 0:
                runner.return_to_block()
        self._moment += 1
        return True

    def run(self, picks):
        """Do steps and, for each -1, a tick; return how many of them did anything."""
        for pick in picks:
            if pick != TICK:
                self._runner(pick)
        many = 0
        for pick in picks:
            if self._pick(pick):
                many += 1
        return many

    def settle(self, *, most=10000):
        """Do steps and ticks until the machine has come to rest, or so many are done; return them."""
        picks = []
        while len(picks) < most and not self.is_at_rest():
            pick = self._choice()
            self._pick(pick)
            picks.append(pick)
        return picks

    def memory(self):
        """Return the memory."""
        return list(self._memory)

    def said(self):
        """Return the list of the lists of what the threads have said."""
        return [list(runner.words) for runner in self._runners]

    def stages(self):
        """Return the list of the stages of the threads."""
        return [runner.stage for runner in self._runners]

    def records(self):
        """Return the list of the records, in the order in which the tries have ended."""
        return list(self._records)

    def moment(self):
        """Return the number of moments so far."""
        return self._moment

    def ticks(self):
        """Return the list of the ticks that the threads have left."""
        return [runner.left for runner in self._runners]

    def current_reads(self, thread):
        """Return the reads of a thread's try, those with which it is enrolled if it is asleep, or None."""
        runner = self._runner(thread)
        if runner.stage == "asleep":
            return dict(runner.enrolled)
        if runner.attempt is None:
            return None
        return dict(runner.attempt.reads)

    def is_committing(self):
        """Return True if some thread's commit has done a step and has not ended."""
        return any([runner.commit is not None and runner.commit.begun for runner in self._runners])

    def is_at_rest(self):
        """Return True if no step and no tick does anything."""
        return not any([runner.can_step() or runner.left > 0 for runner in self._runners])

    def end(self):
        """Return the end of the machine, which has come to rest."""
        if not self.is_at_rest():
            raise NotAtRest()
        ends = [_end_of(runner) for runner in self._runners]
        return tuple(self._memory), tuple(ends), tuple([tuple(runner.words) for runner in self._runners])

    def _runner(self, thread):
        if thread < 0 or thread >= len(self._runners):
            raise UnknownThread(thread)
        return self._runners[thread]

    def _pick(self, pick):
        return self.tick() if pick == TICK else self.step(pick)

    def _choice(self):
        """Return the pick with which a machine settles that has not come to rest."""
        ready = [runner for runner in self._runners if runner.can_step()]
        # Whoever is ending holds locks for which others may be lost.
        for runner in ready:
            if runner.stage == "ending":
                return runner.number
        return ready[0].number if ready else TICK

    def _advance(self, runner):
        if runner.stage == "trying":
            self._try(runner)
        elif runner.stage == "ending":
            self._commit(runner)
        elif runner.stage == "lying":
            self._lie(runner)
        elif runner.stage == "pausing":
            runner.end_pause()
        elif runner.is_before_try():
            runner.begin(self._stripes, self._moment)
        else:
            runner.do_instruction()

    def _try(self, runner):
        state = runner.attempt.step(self._memory)
        if state == "lost":
            self._lose(runner)
        elif state == "retry" and not runner.has_used_up():
            runner.stage = "lying"
        elif state != "going":
            runner.end(self._stripes)

    def _commit(self, runner):
        step = runner.commit.step(self._memory)
        attempt = runner.attempt
        has_written = attempt.state == "done" and len(attempt.log) > 0
        if step == ("wake",):
            self._keep(runner, "done")
            self._wake(runner)
        if runner.commit.next_step() is not None:
            return
        if runner.commit.failed:
            self._lose(runner)
            return
        if not has_written:
            self._keep(runner, attempt.state)
        runner.leave_block()

    def _lie(self, runner):
        attempt = runner.attempt
        if runner.enrolled is None:
            runner.enroll(self._stripes)
        elif runner.woken:
            self._lose(runner)
        elif runner.unchecked:
            if not self._stripes.is_open(runner.unchecked.pop(0), runner.number, attempt.start):
                self._lose(runner)
        elif runner.has_used_up():
            self._lose(runner)
        else:
            self._keep(runner, "retry")
            runner.stage = "asleep"
            runner.attempt = None

    def _lose(self, runner):
        """End a try as lost."""
        self._keep(runner, "lost")
        runner.return_to_block()

    def _keep(self, runner, kind):
        """Keep the record of a try that ends in this moment."""
        attempt = runner.attempt
        stamp = attempt.start
        if runner.commit is not None and runner.commit.stamp is not None:
            stamp = runner.commit.stamp
        writes = attempt.log if kind == "done" else {}
        record = Record(runner.number, runner.begun, self._moment, kind, attempt.reads, writes, stamp)
        self._records.append(record)

    def _wake(self, writer):
        """Wake those for whom the try of a thread has written another value than they have read."""
        for runner in self._runners:
            if runner.number != writer.number and _concerns(writer.attempt.log, runner.enrolled):
                if runner.stage == "asleep":
                    runner.return_to_block()
                else:
                    runner.woken = True


def _concerns(writes, reads):
    if reads is None:
        return False
    return any([cell in reads and reads[cell] != value for cell, value in writes.items()])


def _end_of(runner):
    if runner.stage == "broken":
        return ("broken", runner.reason)
    return (runner.stage,)


def stamped(records):
    """Return the done records of a list in the order in which they explain the others."""
    done = [one for one in records if one.kind == "done"]
    # Among equal stamps only one has ticked: the one that has written.
    return sorted(done, key=lambda one: (one.stamp, len(one.writes) == 0, one.ended))
