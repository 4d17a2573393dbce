"""What holds for every machine, checked at each moment against the plain runs of the blocks."""

from handshaker.errors import Fault
from handshaker.machine import Machine, stamped
from handshaker.plain import run_block
from handshaker.values import first_memory
from tests.threads import course

RESTING = ("ended", "broken", "asleep")


class Shadow:
    """A thread, run by its statements: ahead of the machine's as far as its next block."""

    def __init__(self, thread):
        self.steps = course(thread)
        self.said = []
        self.block = None
        self.end = None
        self.go_on(None)

    def go_on(self, outcome):
        """Go on behind a block to the next one; the outcome is None at first, and if the limit is used up."""
        if outcome is not None and outcome.kind == "done":
            self.said += outcome.later
        self.block = None
        try:
            step = self.steps.send(outcome)
            while step[0] != "block":
                if step[0] == "say":
                    self.said.append(step[1])
                step = self.steps.send(None)
            self.block = step
        except StopIteration:
            self.end = ("ended",)
        except Fault as fault:
            self.end = ("broken", fault.reason)


class Watched:
    """A machine whose steps and ticks are watched."""

    def __init__(self, case, program, stripes):
        self.case = case
        self.cells = program.cells
        self.machine = Machine(program, stripes=stripes)
        self.shadows = [Shadow(thread) for thread in program.threads]
        self.begun = [None] * len(program.threads)
        self.picks = []
        self.kinds = {}
        # The block statement of each record, by the record's moment.
        self.statements = {}

    def pick(self, pick):
        """Do a step or a tick; return True if it did anything."""
        machine, case = self.machine, self.case
        before = told(machine)
        moment, records = machine.moment(), machine.records()
        did = machine.tick() if pick == -1 else machine.step(pick)
        self.picks.append(pick)
        case.assertEqual(machine.moment(), moment + did)
        case.assertIs(did, True if did else False)
        if not did:
            case.assertEqual(told(machine), before)
        found = machine.records()
        case.assertEqual([id(one) for one in found[:len(records)]], [id(one) for one in records])
        case.assertEqual([vars(one) for one in records], before[5])
        case.assertLessEqual(len(found), len(records) + (did and pick != -1))
        self.watch_stages(pick, before[1], machine.stages(), moment)
        for record in found[len(records):]:
            case.assertEqual((record.thread, record.ended), (pick, moment))
            self.watch_record(record)
        return did

    def watch_stages(self, pick, before, after, moment):
        for number, (old, new) in enumerate(zip(before, after)):
            if new != old and number != pick:
                # Only a sleeper is moved by others.
                self.case.assertEqual((old, new), ("asleep", "plain"))
            if new == "trying" and old != "trying":
                self.case.assertEqual(old, "plain")
                self.begun[number] = moment
            if new in ("plain", "pausing", *RESTING[:2]):
                self.case.assertIsNone(self.machine.current_reads(number))
            else:
                self.case.assertIsInstance(self.machine.current_reads(number), dict)

    def watch_record(self, record):
        case, shadow = self.case, self.shadows[record.thread]
        case.assertEqual(record.begun, self.begun[record.thread])
        case.assertLess(record.begun, record.ended)
        self.kinds[record.kind] = self.kinds.get(record.kind, 0) + 1
        if record.kind == "lost":
            case.assertEqual(record.writes, {})
            return
        _, statement, _, locals_now = shadow.block
        self.statements[record.ended] = statement
        # A read of any other cell would be a KeyError.
        outcome = run_block(statement[2], self.cells, locals_now, record.reads)
        case.assertEqual((record.kind, record.reads, record.writes), (outcome.kind, outcome.reads, outcome.writes))
        if record.kind != "retry":
            shadow.go_on(outcome)
        elif self.machine.stages()[record.thread] == "asleep":
            case.assertEqual(self.machine.current_reads(record.thread), record.reads)
        else:
            case.assertIsNotNone(statement[1])
            shadow.go_on(None)

    def check(self):
        """Check all that holds at any moment."""
        machine, case = self.machine, self.case
        order = stamped(machine.records())
        memories = [first_memory(self.cells)]
        for record in order:
            agree(case, record.reads, memories[-1])
            memories.append([record.writes.get(cell, value) for cell, value in enumerate(memories[-1])])
        if not machine.is_committing():
            case.assertEqual(machine.memory(), memories[-1])
            self.check_sleepers()
        for at, record in enumerate(order):
            case.assertFalse(any(later.ended < record.begun for later in order[at + 1:]))
        for record in machine.records():
            self.check_past(order, memories, record.begun, record.reads)
        for number in range(len(self.shadows)):
            reads = machine.current_reads(number)
            if reads is not None:
                self.check_past(order, memories, self.begun[number], reads)
            said = machine.said()[number]
            case.assertEqual(said, self.shadows[number].said[:len(said)])
        if machine.is_at_rest():
            self.check_end()

    def check_past(self, order, memories, begun, reads):
        least = max([0] + [at + 1 for at, record in enumerate(order) if record.ended < begun])
        fitting = [memory for memory in memories[least:] if all(memory[cell] == reads[cell] for cell in reads)]
        self.case.assertNotEqual(fitting, [])

    def check_sleepers(self):
        memory = self.machine.memory()
        for number, stage in enumerate(self.machine.stages()):
            if stage == "asleep":
                _, statement, _, locals_now = self.shadows[number].block
                outcome = run_block(statement[2], self.cells, locals_now, memory)
                self.case.assertEqual(outcome.kind, "retry")
                self.case.assertEqual(outcome.reads, self.machine.current_reads(number))

    def check_end(self):
        machine, case = self.machine, self.case
        memory, ends, said = machine.end()
        case.assertEqual(list(memory), machine.memory())
        case.assertEqual([list(one) for one in said], [shadow.said for shadow in self.shadows])
        for number, shadow in enumerate(self.shadows):
            case.assertEqual(ends[number], ("asleep",) if shadow.end is None else shadow.end)
            case.assertEqual(machine.stages()[number], ends[number][0])
        case.assertEqual(machine.ticks(), [0] * len(self.shadows))
        case.assertEqual([machine.step(number) for number in range(len(ends))], [False] * len(ends))
        case.assertIs(machine.tick(), False)

    def settle(self):
        """Settle, watched, in the order of choice that settling has; return the picks."""
        picks = []
        while not self.machine.is_at_rest():
            picks.append(self.choice())
            self.case.assertIs(self.pick(picks[-1]), True)
            self.case.assertLess(len(picks), 100000)
        return picks

    def choice(self):
        """The pick with which a machine settles, from what it tells."""
        stages, ticks = self.machine.stages(), self.machine.ticks()
        if "ending" in stages:
            return stages.index("ending")
        for number, stage in enumerate(stages):
            if stage not in RESTING and (stage != "pausing" or ticks[number] == 0):
                return number
        return -1


def agree(case, reads, memory):
    case.assertEqual(reads, {cell: memory[cell] for cell in reads})


def told(machine):
    """All that a machine tells, in copies that do not change with it."""
    threads = range(len(machine.stages()))
    records = [copied(vars(record)) for record in machine.records()]
    reads = [copied(machine.current_reads(thread)) for thread in threads]
    return (copied(machine.memory()), list(machine.stages()), copied(machine.said()), list(machine.ticks()),
            machine.moment(), records, reads, machine.is_committing(), machine.is_at_rest(),
            machine.end() if machine.is_at_rest() else None)


def copied(value):
    """A copy of lists and dicts, also of those within."""
    if isinstance(value, list):
        return [copied(one) for one in value]
    if isinstance(value, dict):
        return {key: copied(one) for key, one in value.items()}
    return value
