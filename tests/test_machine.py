import unittest

from handshaker.errors import InvalidCount, NotAtRest, UnknownThread
from handshaker.machine import Machine, Record, stamped
from handshaker.reader import read_program
from tests.blocks import snapshot
from tests.examples import run_example
from tests.facts import told

EXAMPLE = """
>>> from handshaker.machine import Machine, stamped
>>> from handshaker.reader import read_program
>>> text = "cell a = 0\\nthread one\\natomic\\nput a = a + 1\\nend\\nend\\n"
>>> text = text + "thread two\\natomic\\nif a = 0\\nretry\\nend\\nput a = a * 5\\nend\\nsay 7\\nend\\n"
>>> machine = Machine(read_program(text))
>>> len(machine.settle()) < 100, machine.end()
(True, ((5,), (('ended',), ('ended',)), ((), (7,))))
>>> [(one.thread, one.kind) for one in stamped(machine.records())]
[(0, 'done'), (1, 'done')]
"""
CELLS = "cell a = 4\ncell b 3 = 7\n"
INCREASE = "atomic\nput a = a + 1\nend"
WAIT = "atomic\nif a = 4\nretry\nend\nset x = a\nend\nsay x"


def program_of(*bodies):
    """A program with CELLS, and threads with the locals x and y and these lines."""
    text = CELLS
    for name, body in zip(("ann", "bob", "cid", "dan"), bodies):
        text += f"thread {name}\nlocal x = 2\nlocal y = -1\n{body}\nend\n"
    return read_program(text)


def all_of(record):
    return (record.thread, record.begun, record.ended, record.kind, record.reads, record.writes, record.stamp)


class Machines(unittest.TestCase):
    def machine(self, *bodies, stripes=4):
        return Machine(program_of(*bodies), stripes=stripes)

    def until(self, machine, thread, stage):
        """Do steps of a thread until it is in a stage; return how many."""
        many = 0
        while machine.stages()[thread] != stage:
            self.assertIs(machine.step(thread), True)
            many += 1
            self.assertLess(many, 1000)
        return many

    def steps(self, machine, thread, many):
        """Do so many steps of a thread; return the stages behind them."""
        stages = []
        for _ in range(many):
            self.assertIs(machine.step(thread), True)
            stages.append(machine.stages()[thread])
        return stages

    def assert_nothing_happens(self, machine, thread):
        before = told(machine)
        self.assertIs(machine.step(thread), False)
        self.assertEqual(told(machine), before)


class InterfaceTest(Machines):
    def test_example(self):
        run_example(self, EXAMPLE)

    def test_methods_stand_in_the_class(self):
        for name in ("step", "tick", "run", "settle", "memory", "said", "stages", "records", "moment", "ticks",
                     "current_reads", "is_committing", "is_at_rest", "end"):
            self.assertIn(name, vars(Machine))

    def test_at_first(self):
        machine = self.machine("say 1", INCREASE)
        self.assertEqual(machine.memory(), [4, 7, 7, 7])
        self.assertEqual(machine.said(), [[], []])
        self.assertEqual(machine.stages(), ["plain", "plain"])
        self.assertEqual((machine.records(), machine.moment(), machine.ticks()), ([], 0, [0, 0]))
        self.assertEqual([machine.current_reads(0), machine.current_reads(1)], [None, None])
        self.assertIs(machine.is_committing(), False)
        self.assertIs(machine.is_at_rest(), False)

    def test_counts_of_stripes(self):
        program = program_of("")
        for stripes in (0, -1):
            with self.assertRaises(InvalidCount) as caught:
                Machine(program, stripes=stripes)
            self.assertIs(caught.exception.__class__, InvalidCount)
        with self.assertRaises(TypeError):
            Machine(program, 4)
        for stripes in (1, 64):
            self.assertEqual(len(Machine(program, stripes=stripes).settle()), 1)

    def test_there_are_four_stripes_if_nothing_is_said(self):
        text = "cell a 5 = 0\nthread one\natomic\nput a(0) = a({})\nend\nend\nthread two\natomic\nput a(4) = 1\nend\nend"
        for cell, kind in ((4, "lost"), (3, "done")):
            machine = Machine(read_program(text.format(cell)))
            machine.step(0)
            self.until(machine, 1, "ending")
            self.until(machine, 1, "plain")
            while machine.stages()[0] != "plain":
                machine.step(0)
            self.assertEqual([one.kind for one in machine.records()], ["done", kind])

    def test_unknown_threads(self):
        machine = self.machine("say 1", "say 2")
        before = told(machine)
        for thread in (2, -1, 7, -1000):
            for call in (machine.step, machine.current_reads):
                with self.assertRaises(UnknownThread) as caught:
                    call(thread)
                self.assertIs(caught.exception.__class__, UnknownThread)
                self.assertEqual(caught.exception.thread, thread)
        for picks, wrong in (([0, 2, 5], 2), ([0, 1, -2], -2), ([0, -1, 1, 99, 0], 99)):
            with self.assertRaises(UnknownThread) as caught:
                machine.run(picks)
            self.assertEqual(caught.exception.thread, wrong)
        self.assertEqual(told(machine), before)

    def test_run(self):
        machine = self.machine("say 1\npause 1\nsay 2", "say 3")
        picks = [0, 1, -1, 0, 0, 1, -1, -1, 1, 0]
        self.assertEqual(machine.run(picks), 6)
        self.assertEqual(picks, [0, 1, -1, 0, 0, 1, -1, -1, 1, 0])
        self.assertEqual((machine.said(), machine.moment()), ([[1], [3]], 6))
        self.assertEqual(machine.run([]), 0)
        self.assertEqual(machine.run([1, 1, -1]), 0)
        self.assertEqual(machine.moment(), 6)

    def test_lists_that_are_returned_are_new(self):
        machine = self.machine(INCREASE + "\nsay 5", WAIT, "pause 3", "atomic\nset x = a\nset y = b\nend")
        self.until(machine, 1, "asleep")
        self.steps(machine, 2, 1)
        self.steps(machine, 3, 2)
        machine.settle(most=5)
        before = told(machine)
        for kept in (machine.memory(), machine.said(), machine.said()[0], machine.stages(), machine.records(),
                     machine.ticks()):
            kept.append(77)
            kept[0] = 77
        for thread in (1, 3):
            machine.current_reads(thread)[0] = 77
            machine.current_reads(thread).clear()
        self.assertEqual(told(machine), before)
        self.assertEqual(machine.settle(most=0), [])

    def test_the_program_does_not_change(self):
        program = program_of(INCREASE + "\nset x = 9\nrepeat 2\nsay x\nend", WAIT)
        before = [snapshot(program.cells), [snapshot([one.name, one.variables, one.body]) for one in program.threads]]
        Machine(program).settle()
        after = [program.cells, [[one.name, one.variables, one.body] for one in program.threads]]
        self.assertEqual(after, before)


class RecordTest(unittest.TestCase):
    def test_attributes(self):
        record = Record(2, 3, 9, "done", {0: 1}, {1: 2}, 5)
        self.assertEqual(all_of(record), (2, 3, 9, "done", {0: 1}, {1: 2}, 5))

    def test_a_record_keeps_what_it_was_given(self):
        reads, writes = {0: 1}, {1: 2}
        record = Record(2, 3, 9, "done", reads, writes, 5)
        reads[7] = writes[7] = 7
        self.assertEqual(all_of(record), (2, 3, 9, "done", {0: 1}, {1: 2}, 5))

    def test_stamped(self):
        rows = (
            (0, 30, "done", {}, 4), (1, 20, "done", {}, 4), (2, 40, "done", {0: 1}, 4), (3, 1, "lost", {}, 1),
            (4, 2, "undo", {}, 2), (5, 3, "retry", {}, 0), (6, 50, "done", {0: 1}, 3), (7, 5, "fault", {}, 0),
            (8, 60, "done", {1: 0}, 2), (9, 10, "done", {}, 5), (10, 61, "done", {}, 0),
        )
        records = [Record(thread, 0, ended, kind, {}, writes, stamp) for thread, ended, kind, writes, stamp in rows]
        kept = list(records)
        self.assertEqual([one.thread for one in stamped(records)], [10, 8, 6, 2, 1, 0, 9])
        self.assertEqual([one.thread for one in stamped(records[::-1])], [10, 8, 6, 2, 1, 0, 9])
        self.assertEqual(records, kept)
        self.assertEqual(stamped([]), [])
        self.assertEqual(stamped(records[3:6]), [])


class PlainTest(Machines):
    def test_the_end_of_the_code(self):
        machine = self.machine("")
        self.assertEqual(self.steps(machine, 0, 1), ["ended"])
        self.assertEqual(machine.moment(), 1)
        self.assert_nothing_happens(machine, 0)

    def test_an_instruction_each(self):
        machine = self.machine("set x = 5\nsay x\nif y = 0\nsay 1\nelse\nsay 2\nend\nrepeat 2\nsay x\nend")
        said = [[], [5], [5], [5, 2], [5, 2], [5, 2], [5, 2, 5]]
        for at, expected in enumerate(said):
            self.assertEqual(self.steps(machine, 0, 1), ["plain"])
            self.assertEqual((machine.said(), machine.moment()), ([expected], at + 1))
        self.until(machine, 0, "ended")
        self.assertEqual(machine.said(), [[5, 2, 5, 5]])
        self.assertEqual(machine.records(), [])

    def test_jumps_behind_first_lists(self):
        machine = self.machine("if 1\nsay 1\nelse\nsay 2\nend\nsay 3")
        self.assertEqual([self.steps(machine, 0, 1) and machine.said()[0] for _ in range(4)], [[], [1], [1], [1, 3]])

    def test_faults_outside_of_blocks(self):
        rows = (
            ("set x = 1 / 0", "zero"), ("say 1000000000 + 1", "range"), ("repeat 21\nend", "count"),
            ("repeat -1\nend", "count"), ("if 1 rest 0\nend", "zero"), ("pause 1 / 0", "zero"),
            ("atomic within 1 / 0\nend", "zero"), ("atomic within -1\nend", "count"),
            ("atomic within 1001\nend", "count"), ("pause -1", "count"), ("pause 1001", "count"),
        )
        for text, reason in rows:
            machine = self.machine("say 1\n" + text + "\nsay 2")
            self.assertEqual(self.steps(machine, 0, 2), ["plain", "broken"], text)
            self.assert_nothing_happens(machine, 0)
            self.assertIs(machine.is_at_rest(), True)
            self.assertEqual(machine.end(), ((4, 7, 7, 7), (("broken", reason),), ((1,),)))
            self.assertEqual((machine.records(), machine.ticks(), machine.moment()), ([], [0], 2))
            self.assertIs(machine.tick(), False)


class PauseTest(Machines):
    def test_pauses(self):
        for ticks in (0, 1, 2, 1000):
            machine = self.machine(f"pause {ticks}\nsay 1")
            self.assertEqual(self.steps(machine, 0, 1), ["pausing"])
            for left in range(ticks, 0, -1):
                self.assertEqual(machine.ticks(), [left])
                self.assert_nothing_happens(machine, 0)
                self.assertIs(machine.tick(), True)
            self.assertEqual((machine.ticks(), machine.stages()), ([0], ["pausing"]))
            self.assertIs(machine.tick(), False)
            self.assertEqual((self.steps(machine, 0, 1), machine.said()), (["plain"], [[]]))
            self.assertEqual((self.steps(machine, 0, 2), machine.said()), (["plain", "ended"], [[1]]))
            self.assertEqual(machine.moment(), 4 + ticks)

    def test_a_tick_takes_one_from_each(self):
        machine = self.machine("pause 1", "pause 3", "", "atomic within 2\nretry\nend")
        for thread in (0, 1, 3):
            self.steps(machine, thread, 1)
        told_ticks = [machine.ticks()]
        while machine.tick():
            told_ticks.append(machine.ticks())
        self.assertEqual(told_ticks, [[1, 3, 0, 2], [0, 2, 0, 1], [0, 1, 0, 0], [0, 0, 0, 0]])
        self.assertEqual(machine.moment(), 6)

    def test_no_tick_is_possible(self):
        machine = self.machine("say 1", INCREASE)
        before = told(machine)
        self.assertIs(machine.tick(), False)
        self.assertEqual(told(machine), before)


class BlockTest(Machines):
    def test_a_block_that_writes(self):
        machine = self.machine("say 3\natomic\nput a = a + 1\nset x = 9\nlater 8\nend\nsay x")
        self.assertEqual(self.steps(machine, 0, 2), ["plain", "trying"])
        self.assertEqual(machine.current_reads(0), {})
        many = self.until(machine, 0, "ending")
        self.assertEqual((machine.current_reads(0), machine.memory()), ({0: 4}, [4, 7, 7, 7]))
        self.assertIs(machine.is_committing(), False)
        seen = []
        while machine.stages()[0] == "ending":
            machine.step(0)
            seen.append((machine.is_committing(), machine.memory()[0], len(machine.records()), machine.said()[0]))
        # The steps are lock, tick, check, write, wake and stamp.
        self.assertEqual(seen, [
            (True, 4, 0, [3]), (True, 4, 0, [3]), (True, 4, 0, [3]), (True, 5, 0, [3]), (True, 5, 1, [3]),
            (False, 5, 1, [3, 8]),
        ])
        self.assertEqual(all_of(machine.records()[0]), (0, 1, many + 6, "done", {0: 4}, {0: 5}, 1))
        self.assertEqual((machine.stages(), machine.current_reads(0)), (["plain"], None))
        self.assertEqual((self.steps(machine, 0, 2), machine.said()), (["plain", "ended"], [[3, 8, 9]]))

    def test_a_block_that_does_not_write(self):
        machine = self.machine("atomic\nset x = a + b(1)\nlater 1\nend\nsay x")
        self.until(machine, 0, "ending")
        self.assertEqual((self.steps(machine, 0, 1), machine.is_committing()), (["ending"], True))
        self.assertEqual((self.steps(machine, 0, 1), machine.is_committing()), (["plain"], False))
        record = machine.records()[0]
        self.assertEqual(all_of(record), (0, 0, machine.moment() - 1, "done", {0: 4, 2: 7}, {}, 0))
        machine.settle()
        self.assertEqual(machine.said(), [[1, 11]])

    def test_a_block_with_no_steps_to_commit(self):
        for body, kind, stage in (("", "done", "plain"), ("undo", "undo", "plain"), ("later 1 / 0", "fault", "broken")):
            machine = self.machine(f"atomic\n{body}\nend")
            many = self.until(machine, 0, "ending")
            self.assertEqual(many, 2)
            self.assertEqual((self.steps(machine, 0, 1), machine.is_committing()), ([stage], False))
            self.assertEqual(all_of(machine.records()[0]), (0, 0, 2, kind, {}, {}, 0))

    def test_undo(self):
        machine = self.machine("atomic\nset x = a\nput a = 9\nlater 1\nundo\nend\nsay x")
        self.until(machine, 0, "ending")
        self.assertEqual(self.steps(machine, 0, 1), ["plain"])
        self.assertEqual(all_of(machine.records()[0]), (0, 0, machine.moment() - 1, "undo", {0: 4}, {}, 0))
        machine.settle()
        self.assertEqual(machine.end(), ((4, 7, 7, 7), (("ended",),), ((2,),)))

    def test_faults(self):
        machine = self.machine("atomic\nset x = a\nput a = 9\nlater 1\nput b(x) = 1\nend\nsay x")
        self.until(machine, 0, "broken")
        self.assertEqual(all_of(machine.records()[0]), (0, 0, machine.moment() - 1, "fault", {0: 4}, {}, 0))
        self.assertEqual(machine.end(), ((4, 7, 7, 7), (("broken", "index"),), ((),)))
        self.assert_nothing_happens(machine, 0)

    def test_the_frame_is_a_copy(self):
        machine = self.machine("atomic\nset x = 9\nif a < 6\nundo\nend\nend\nsay x")
        machine.settle()
        self.assertEqual(machine.said(), [[2]])

    def test_stamps(self):
        machine = self.machine(INCREASE + "\n" + INCREASE, "atomic\nset x = a\nend\natomic\nset x = a\nend")
        self.until(machine, 1, "ending")
        self.until(machine, 1, "plain")
        self.until(machine, 0, "ended")
        self.until(machine, 1, "ended")
        found = [(one.thread, one.kind, one.stamp) for one in machine.records()]
        self.assertEqual(found, [(1, "done", 0), (0, "done", 1), (0, "done", 2), (1, "done", 2)])


class LostTest(Machines):
    def test_a_thread_that_is_lost_begins_again(self):
        machine = self.machine("atomic\nset x = a\nset y = b\nend\nsay x + y", INCREASE)
        self.steps(machine, 0, 1)
        self.until(machine, 1, "ended")
        self.assertEqual(self.steps(machine, 0, 1), ["plain"])
        self.assertEqual(all_of(machine.records()[1]), (0, 0, machine.moment() - 1, "lost", {}, {}, 0))
        self.assertIsNone(machine.current_reads(0))
        moment = machine.moment()
        self.assertEqual(self.steps(machine, 0, 1), ["trying"])
        machine.settle()
        self.assertEqual(machine.said(), [[12], []])
        self.assertEqual([(one.thread, one.kind, one.begun) for one in machine.records()],
                         [(1, "done", 1), (0, "lost", 0), (0, "done", moment)])

    def test_lost_at_a_locked_stripe(self):
        machine = self.machine("atomic\nset x = b(1)\nset y = a\nend", INCREASE)
        self.until(machine, 1, "ending")
        self.steps(machine, 1, 1)
        self.steps(machine, 0, 3)
        while machine.stages()[0] == "trying":
            machine.step(0)
        record = machine.records()[0]
        self.assertEqual((machine.stages()[0], record.kind, record.reads), ("plain", "lost", {2: 7}))

    def test_lost_at_a_check_of_the_commit(self):
        machine = self.machine("atomic\nput b = a\nend", INCREASE)
        self.until(machine, 0, "ending")
        self.until(machine, 1, "ended")
        # The steps are lock, tick, check and free.
        self.assertEqual(self.steps(machine, 0, 3), ["ending"] * 3)
        self.assertEqual([one.kind for one in machine.records()], ["done"])
        self.assertIs(machine.is_committing(), True)
        self.assertEqual(self.steps(machine, 0, 1), ["plain"])
        self.assertEqual(all_of(machine.records()[1]), (0, 0, machine.moment() - 1, "lost", {0: 4}, {}, 2))
        machine.settle()
        self.assertEqual(machine.memory(), [5, 5, 7, 7])

    def test_lost_at_a_lock_of_the_commit(self):
        machine = self.machine("atomic\nput b = 1\nput a = 2\nend", INCREASE, stripes=2)
        self.until(machine, 0, "ending")
        self.until(machine, 1, "ending")
        self.steps(machine, 1, 1)
        self.assertEqual(self.steps(machine, 0, 1), ["plain"])
        self.assertEqual(all_of(machine.records()[0]), (0, 0, machine.moment() - 1, "lost", {}, {}, 0))
        machine.settle()
        self.assertEqual(machine.memory(), [2, 1, 7, 7])

    def test_lost_at_a_check_without_stripes(self):
        for body in ("set x = a", "set x = a\nundo", "set x = a / 0"):
            machine = self.machine(f"atomic\n{body}\nend", INCREASE)
            self.until(machine, 0, "ending")
            self.until(machine, 1, "ended")
            self.assertEqual(self.steps(machine, 0, 1), ["plain"])
            self.assertEqual(all_of(machine.records()[1]), (0, 0, machine.moment() - 1, "lost", {0: 4}, {}, 0))
            machine.settle()
            self.assertEqual(len(machine.records()), 3)


class SleepTest(Machines):
    def test_falling_asleep(self):
        machine = self.machine("atomic\nset x = a + b(2)\nput a = 1\nretry\nend")
        self.until(machine, 0, "lying")
        self.assertEqual((machine.current_reads(0), machine.records()), ({0: 4, 3: 7}, []))
        # It is enrolled, checks two stripes, and falls asleep.
        self.assertEqual(self.steps(machine, 0, 4), ["lying", "lying", "lying", "asleep"])
        self.assertEqual(all_of(machine.records()[0]), (0, 0, machine.moment() - 1, "retry", {0: 4, 3: 7}, {}, 0))
        self.assertEqual(machine.current_reads(0), {0: 4, 3: 7})
        self.assert_nothing_happens(machine, 0)
        self.assertIs(machine.is_at_rest(), True)
        self.assertEqual(machine.end(), ((4, 7, 7, 7), (("asleep",),), ((),)))

    def test_a_block_that_has_read_nothing(self):
        machine = self.machine("atomic\nretry\nend", INCREASE)
        self.until(machine, 0, "lying")
        self.assertEqual(self.steps(machine, 0, 2), ["lying", "asleep"])
        machine.settle()
        self.assertEqual((machine.stages(), machine.current_reads(0)), (["asleep", "ended"], {}))

    def test_two_cells_of_one_stripe_are_checked_once(self):
        machine = self.machine("atomic\nset x = a + b(1)\nretry\nend", stripes=2)
        self.until(machine, 0, "lying")
        self.assertEqual(self.steps(machine, 0, 3), ["lying", "lying", "asleep"])

    def test_another_value_wakes(self):
        machine = self.machine(WAIT, INCREASE)
        self.until(machine, 0, "asleep")
        self.until(machine, 1, "ending")
        stages = []
        while machine.stages()[1] == "ending":
            machine.step(1)
            stages.append(machine.stages()[0])
        # It is woken at the step "wake", ahead of the stamp.
        self.assertEqual(stages, ["asleep"] * 4 + ["plain"] * 2)
        self.assertIsNone(machine.current_reads(0))
        self.assertEqual(len(machine.records()), 2)
        machine.settle()
        self.assertEqual((machine.said(), machine.stages()), ([[5], []], ["ended", "ended"]))
        self.assertEqual([one.kind for one in machine.records()], ["retry", "done", "done"])

    def test_the_value_read_does_not_wake(self):
        for body in ("put a = 4", "put b = 9", "put a = 9\nundo", "put b(1) = 0\nput a = a"):
            machine = self.machine(WAIT, f"atomic\n{body}\nend")
            self.until(machine, 0, "asleep")
            self.until(machine, 1, "ended")
            self.assertEqual((machine.stages(), machine.current_reads(0)), (["asleep", "ended"], {0: 4}))
            self.assertIs(machine.is_at_rest(), True)

    def test_a_woken_thread_can_fall_asleep_again(self):
        machine = self.machine("atomic\nif a < 6\nretry\nend\nend", INCREASE + "\n" + INCREASE)
        self.until(machine, 0, "asleep")
        self.until(machine, 1, "ending")
        self.until(machine, 1, "plain")
        self.until(machine, 0, "asleep")
        self.assertEqual(machine.current_reads(0), {0: 5})
        machine.settle()
        self.assertEqual([one.kind for one in machine.records()], ["retry", "done", "retry", "done", "done"])

    def test_all_sleepers_are_woken_that_are_concerned(self):
        machine = self.machine(WAIT, "atomic\nset x = b(2)\nretry\nend", WAIT, INCREASE)
        for thread in (0, 1, 2):
            self.until(machine, thread, "asleep")
        self.until(machine, 3, "ended")
        self.assertEqual(machine.stages(), ["plain", "asleep", "plain", "ended"])

    def test_any_of_the_reads_wakes(self):
        machine = self.machine("atomic\nset x = a + b(1)\nretry\nend", "atomic\nput b = 1\nput b(1) = 3\nput a = 4\nend")
        self.until(machine, 0, "asleep")
        self.until(machine, 1, "ended")
        self.assertEqual(machine.stages(), ["plain", "ended"])


class LyingTest(Machines):
    def lying(self, many, *bodies):
        """A machine whose first thread has done so many steps lying."""
        machine = self.machine(*bodies)
        self.until(machine, 0, "lying")
        self.assertEqual(self.steps(machine, 0, many), ["lying"] * many)
        return machine

    def test_woken_while_lying(self):
        for many in (1, 2):
            machine = self.lying(many, WAIT, INCREASE)
            self.until(machine, 1, "ended")
            self.assertEqual((machine.stages()[0], machine.current_reads(0)), ("lying", {0: 4}))
            self.assertEqual(self.steps(machine, 0, 1), ["plain"])
            self.assertEqual(all_of(machine.records()[1]), (0, 0, machine.moment() - 1, "lost", {0: 4}, {}, 0))
            machine.settle()
            self.assertEqual(machine.said(), [[5], []])

    def test_woken_at_the_step_wake_alone(self):
        machine = self.lying(2, WAIT, INCREASE)
        self.until(machine, 1, "ending")
        # Behind lock, tick, check and write it is not woken yet.
        self.steps(machine, 1, 4)
        self.assertEqual(self.steps(machine, 0, 1), ["asleep"])
        self.steps(machine, 1, 1)
        self.assertEqual(machine.stages(), ["plain", "ending"])

    def test_not_enrolled_yet(self):
        machine = self.lying(0, WAIT, INCREASE)
        self.until(machine, 1, "ended")
        self.assertEqual(self.steps(machine, 0, 2), ["lying", "plain"])
        self.assertEqual([one.kind for one in machine.records()], ["done", "lost"])

    def test_a_stripe_that_is_locked_when_it_is_checked(self):
        machine = self.lying(1, WAIT, INCREASE)
        self.until(machine, 1, "ending")
        self.steps(machine, 1, 1)
        self.assertEqual(self.steps(machine, 0, 1), ["plain"])
        self.assertEqual(machine.records()[0].kind, "lost")

    def test_a_stripe_that_is_newer_when_it_is_checked(self):
        # The cell b(3) shares its stripe with a: nobody is woken, but the version is newer.
        text = "cell a = 4\ncell b 4 = 7\nthread ann\natomic\nif a = 4\nretry\nend\nend\nend\n"
        machine = Machine(read_program(text + "thread bob\natomic\nput b(3) = 0\nend\nend\n"))
        self.until(machine, 0, "lying")
        self.steps(machine, 0, 1)
        self.until(machine, 1, "ended")
        self.assertEqual(self.steps(machine, 0, 1), ["plain"])
        self.assertEqual(machine.records()[1].kind, "lost")
        self.until(machine, 0, "asleep")

    def test_the_second_stripe_is_checked_too(self):
        machine = self.lying(2, "atomic\nset x = a + b\nretry\nend", "atomic\nput b = 7\nend")
        self.until(machine, 1, "ended")
        self.assertEqual(self.steps(machine, 0, 1), ["plain"])
        self.assertEqual([one.kind for one in machine.records()], ["done", "lost"])

    def test_a_checked_stripe_of_which_the_value_read_is_written_does_not_disturb(self):
        machine = self.lying(2, WAIT, "atomic\nput a = 4\nend")
        self.until(machine, 1, "ended")
        self.assertEqual(self.steps(machine, 0, 1), ["asleep"])


class LimitTest(Machines):
    BODY = "atomic within {}\nif a = 4\nretry\nend\nset x = a\nlate\nsay 1\nend\nsay x"

    def test_arming(self):
        machine = self.machine(self.BODY.format("x + 1"))
        self.assertEqual((self.steps(machine, 0, 1), machine.ticks(), machine.moment()), (["plain"], [3], 1))
        self.assertEqual((self.steps(machine, 0, 1), machine.ticks()), (["trying"], [3]))
        self.assertIs(machine.tick(), True)
        self.assertEqual((machine.stages(), machine.ticks()), (["trying"], [2]))

    def test_a_limit_of_0(self):
        machine = self.machine(self.BODY.format(0))
        self.assertEqual((self.steps(machine, 0, 2), machine.ticks()), (["plain", "trying"], [0]))
        self.until(machine, 0, "ending")
        self.assertEqual(self.steps(machine, 0, 1), ["plain"])
        self.assertEqual(all_of(machine.records()[0]), (0, 1, machine.moment() - 1, "retry", {0: 4}, {}, 0))
        machine.settle()
        self.assertEqual(machine.said(), [[1, 2]])

    def test_used_up_while_asleep(self):
        machine = self.machine(self.BODY.format(2))
        self.until(machine, 0, "asleep")
        self.assertIs(machine.is_at_rest(), False)
        self.assertIs(machine.tick(), True)
        self.assertEqual((machine.stages(), machine.ticks(), machine.current_reads(0)), (["asleep"], [1], {0: 4}))
        self.assertIs(machine.tick(), True)
        self.assertEqual((machine.stages(), machine.ticks(), machine.current_reads(0)), (["plain"], [0], None))
        self.assertEqual(self.steps(machine, 0, 1), ["trying"])
        self.until(machine, 0, "ending")
        self.until(machine, 0, "plain")
        self.assertEqual([one.kind for one in machine.records()], ["retry", "retry"])
        machine.settle()
        self.assertEqual(machine.said(), [[1, 2]])

    def test_used_up_while_trying(self):
        machine = self.machine(self.BODY.format(1))
        self.until(machine, 0, "trying")
        machine.tick()
        self.until(machine, 0, "ending")
        self.assertEqual(machine.current_reads(0), {0: 4})
        machine.settle()
        self.assertEqual(machine.said(), [[1, 2]])

    def test_used_up_while_lying(self):
        for many in (0, 1, 2):
            machine = self.machine(self.BODY.format(1))
            self.until(machine, 0, "lying")
            self.steps(machine, 0, many)
            machine.tick()
            self.assertEqual((machine.stages(), machine.ticks()), (["lying"], [0]))
            self.assertEqual(self.steps(machine, 0, 3 - many), ["lying"] * (2 - many) + ["plain"])
            self.assertEqual([one.kind for one in machine.records()], ["lost"])
            self.assertIsNone(machine.current_reads(0))
            self.until(machine, 0, "ending")
            machine.settle()
            self.assertEqual(machine.said(), [[1, 2]])

    def test_used_up_but_lost_at_the_commit(self):
        machine = self.machine(self.BODY.format(0), INCREASE)
        self.until(machine, 0, "ending")
        self.until(machine, 1, "ended")
        self.assertEqual(self.steps(machine, 0, 1), ["plain"])
        self.assertEqual([one.kind for one in machine.records()], ["done", "lost"])
        # It is armed still: the next step begins a try.
        self.assertEqual(self.steps(machine, 0, 1), ["trying"])
        machine.settle()
        self.assertEqual(machine.said(), [[5], []])

    def test_woken_ahead_of_the_limit(self):
        machine = self.machine(self.BODY.format(5), INCREASE)
        self.until(machine, 0, "asleep")
        machine.tick()
        self.until(machine, 1, "ended")
        self.assertEqual((machine.stages()[0], machine.ticks()), ("plain", [4, 0]))
        self.assertEqual(self.steps(machine, 0, 1), ["trying"])
        self.until(machine, 0, "ending")
        self.assertEqual(machine.ticks(), [4, 0])
        self.until(machine, 0, "plain")
        self.assertEqual(machine.ticks(), [0, 0])
        self.assertIs(machine.tick(), False)
        machine.settle()
        self.assertEqual(machine.said(), [[5], []])

    def test_no_longer_armed_behind_each_kind(self):
        for body, stage in (("set x = a", "plain"), ("set x = a\nundo", "plain"), ("set x = a / 0", "broken")):
            machine = self.machine(f"atomic within 9\n{body}\nend\natomic within 3\nend")
            self.until(machine, 0, "ending")
            self.assertEqual(machine.ticks(), [9])
            self.until(machine, 0, stage)
            self.assertEqual(machine.ticks(), [0])
            if stage == "plain":
                self.assertEqual((self.steps(machine, 0, 1), machine.ticks()), (["plain"], [3]))

    def test_still_armed_behind_a_lost_try(self):
        machine = self.machine(self.BODY.format(6), INCREASE)
        self.until(machine, 0, "trying")
        self.until(machine, 1, "ended")
        self.assertEqual(self.steps(machine, 0, 1), ["plain"])
        self.assertEqual((machine.ticks(), machine.records()[1].kind), ([6, 0], "lost"))
        self.assertEqual(self.steps(machine, 0, 1), ["trying"])

    def test_the_largest_limit(self):
        machine = self.machine(self.BODY.format(1000))
        self.assertEqual((self.steps(machine, 0, 1), machine.ticks()), (["plain"], [1000]))
        picks = machine.settle()
        self.assertEqual((picks.count(-1), machine.said()), (1000, [[1, 2]]))

    def test_a_limit_in_a_repeat_is_armed_each_time(self):
        machine = self.machine("repeat 2\natomic within x\nretry\nlate\nset x = x + 1\nsay x\nend\nend")
        self.assertEqual(machine.settle().count(-1), 5)
        self.assertEqual(machine.said(), [[3, 4]])


class RestTest(Machines):
    def test_not_at_rest(self):
        machine = self.machine("pause 1", "atomic\nretry\nend")
        for _ in range(20):
            machine.step(1)
        machine.step(0)
        self.assertEqual(machine.stages(), ["pausing", "asleep"])
        before = told(machine)
        with self.assertRaises(NotAtRest) as caught:
            machine.end()
        self.assertIs(caught.exception.__class__, NotAtRest)
        self.assertEqual(told(machine), before)
        machine.tick()
        self.assertIs(machine.is_at_rest(), False)
        self.steps(machine, 0, 1)
        with self.assertRaises(NotAtRest):
            machine.end()
        self.steps(machine, 0, 1)
        self.assertEqual(machine.end(), ((4, 7, 7, 7), (("ended",), ("asleep",)), ((), ())))

    def test_an_end_is_made_of_tuples(self):
        machine = self.machine("say 1\nsay 2", "say 1 / 0")
        machine.settle()
        self.assertEqual(machine.end(), ((4, 7, 7, 7), (("ended",), ("broken", "zero")), ((1, 2), ())))


class SettleTest(Machines):
    def test_the_least_thread_first_and_ticks_last(self):
        machine = self.machine("pause 1\nsay 1", "say 2", "pause 2")
        self.assertEqual(machine.settle(), [0, 1, 1, 2, -1, 0, 0, 0, -1, 2, 2])
        self.assertEqual(machine.settle(), [])
        self.assertEqual(machine.moment(), 11)

    def test_threads_that_are_ending_come_first(self):
        machine = self.machine("say 1", "say 2", INCREASE, "atomic\nput b = b + 1\nend")
        machine.run([3] * 4)
        machine.run([2] * 4)
        self.assertEqual(machine.stages(), ["plain", "plain", "ending", "ending"])
        self.assertEqual(machine.settle(most=15), [2] * 6 + [3] * 6 + [0, 0, 1])

    def test_most(self):
        first, second = self.machine(INCREASE, WAIT), self.machine(INCREASE, WAIT)
        whole = first.settle()
        found = []
        while True:
            picks = second.settle(most=3)
            found += picks
            if len(picks) < 3:
                break
        self.assertEqual(found, whole)
        self.assertEqual(told(first), told(second))
        for most in (0, -1):
            machine = self.machine("say 1")
            self.assertEqual((machine.settle(most=most), machine.moment()), ([], 0))
        self.assertEqual(self.machine("say 1").settle(most=1), [0])
        with self.assertRaises(TypeError):
            self.machine("").settle(5)

    def test_there_are_at_most_10000_if_nothing_is_said(self):
        rows = "repeat 20\nrepeat 20\nsay 1\nsay 2\nsay 3\nsay 4\nsay 5\nend\nend\n" * 5
        machine = self.machine(rows)
        self.assertEqual(len(machine.settle()), 10000)
        self.assertIs(machine.is_at_rest(), False)
        self.assertGreater(len(machine.settle(most=100000)), 1000)
        self.assertIs(machine.is_at_rest(), True)

    def test_the_picks_do_the_same_in_another_machine(self):
        program = program_of(WAIT, INCREASE, "pause 2\n" + WAIT.replace("a = 4", "a < 6"), INCREASE)
        first, second = Machine(program), Machine(program)
        picks = first.settle()
        self.assertEqual(second.run(picks), len(picks))
        self.assertEqual(told(first), told(second))
        self.assertEqual(first.moment(), len(picks))


if __name__ == "__main__":
    unittest.main()
