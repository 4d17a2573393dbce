"""The threads of a machine."""

from handshaker.attempt import Try
from handshaker.commit import Commit
from handshaker.errors import Fault
from handshaker.flat import flat_thread
from handshaker.walk import evaluate_slots, go_on, ticks_of


class Runner:
    """A thread of a machine: its stage, and what goes with it."""

    def __init__(self, number, thread, cells):
        code, count = flat_thread(thread, cells)
        first = [value for _, value in thread.variables]
        self.number = number
        self.code = code
        self.frame = first + [0] * (count - len(first))
        self.at = 0
        self.stage = "plain"
        self.reason = None
        self.words = []
        # The ticks that are left of a pause or a limit; armed is it at a block with a limit.
        self.left = 0
        self.armed = False
        self.attempt = None
        self.begun = 0
        self.commit = None
        # The reads with which it is enrolled, and the stripes that it has yet to check.
        self.enrolled = None
        self.unchecked = []
        self.woken = False

    def can_step(self):
        """Return True if a step does anything."""
        if self.stage == "pausing":
            return self.left == 0
        return self.stage not in ("ended", "broken", "asleep")

    def is_before_try(self):
        """Return True if it is at a block that it can try without arming its limit."""
        if self.stage != "plain" or self.at == len(self.code):
            return False
        instruction = self.code[self.at]
        return instruction[0] == "block" and (instruction[2] is None or self.armed)

    def has_used_up(self):
        """Return True if it has used up the limit of its block."""
        return self.armed and self.left == 0

    def do_instruction(self):
        """Do the instruction at its position, or end behind the last one."""
        if self.at == len(self.code):
            self.stage = "ended"
            return
        try:
            self._do(self.code[self.at])
        except Fault as fault:
            self._break(fault.reason)

    def _do(self, instruction):
        word = instruction[0]
        if word == "say":
            self.words.append(evaluate_slots(instruction[1], self.frame))
            self.at += 1
        elif word == "pause":
            self.left = ticks_of(instruction[1], self.frame)
            self.stage = "pausing"
        elif word == "block":
            self.left = ticks_of(instruction[2], self.frame)
            self.armed = True
        else:
            self.at = go_on(instruction, self.at, self.frame)

    def _break(self, reason):
        self.stage = "broken"
        self.reason = reason

    def end_pause(self):
        """Go on behind a pause."""
        self.stage = "plain"
        self.at += 1

    def begin(self, stripes, moment):
        """Begin a try of the block at its position."""
        self.attempt = Try(self.number, self.code[self.at][1], self.frame, stripes)
        self.begun = moment
        self.stage = "trying"

    def end(self, stripes):
        """Begin to bring the try to its end."""
        self.commit = Commit(self.attempt, stripes)
        self.stage = "ending"

    def enroll(self, stripes):
        """Be enrolled with the reads of the try."""
        self.enrolled = dict(self.attempt.reads)
        self.unchecked = stripes.stripes_of(self.enrolled)
        self.woken = False

    def return_to_block(self):
        """Be plain at the same block, without a try."""
        self.stage = "plain"
        self.attempt = None
        self.commit = None
        self.enrolled = None

    def leave_block(self):
        """Go on as the try tells, whose commit has not failed."""
        attempt = self.attempt
        self.return_to_block()
        self.armed = False
        self.left = 0
        if attempt.state == "fault":
            self._break(attempt.reason)
        elif attempt.state == "retry":
            self.at = self.code[self.at][3]
        else:
            self.at += 1
        if attempt.state == "done":
            self.frame = list(attempt.frame)
            self.words.extend(attempt.later)
