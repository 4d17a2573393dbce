import random
import unittest

from handshaker.errors import TooLarge
from handshaker.explore import explore
from handshaker.machine import Machine, Record
from handshaker.reader import read_program
from handshaker.report import ends_report, machine_report, records_report
from tests.facts import told
from tests.test_explore import LATE, TWO, drawn, pauses
from tests.test_machine_facts import random_picks

TEXT = ("cell a = 4\ncell b 2 = -7\nthread one\nsay 3\nsay -5\npause 2\nend\n"
        "thread two\natomic within 3\nif a = 4\nretry\nend\nlate\nend\nend\nthread three\nsay 1\nsay 1 / 0\nend")


class MachineReportTest(unittest.TestCase):
    def setUp(self):
        self.program = read_program(TEXT)
        self.machine = Machine(self.program)

    def report(self):
        before = told(self.machine)
        lines = machine_report(self.program, self.machine)
        self.assertEqual(told(self.machine), before)
        self.assertIsInstance(lines, list)
        return lines

    def test_at_first(self):
        self.assertEqual(self.report(), ["memory 4 -7 -7", "thread one plain", "thread two plain", "thread three plain"])

    def test_ticks_and_what_is_said(self):
        self.machine.run([0, 2])
        self.assertEqual(self.report()[1:], ["thread one plain said 3", "thread two plain", "thread three plain said 1"])
        self.machine.run([0, 0, 1, 1, 2])
        self.assertEqual(self.report()[1:], [
            "thread one pausing ticks 2 said 3 -5", "thread two trying ticks 3", "thread three broken said 1"])
        self.machine.tick()
        self.assertEqual(self.report()[1:3], ["thread one pausing ticks 1 said 3 -5", "thread two trying ticks 2"])
        self.machine.tick()
        self.assertEqual(self.report()[1:3], ["thread one pausing said 3 -5", "thread two trying ticks 1"])

    def test_every_stage(self):
        seen = set()
        while not self.machine.is_at_rest():
            choice = self.machine.settle(most=1)
            self.assertEqual(len(choice), 1)
            lines = self.report()
            for name, stage, line in zip(("one", "two", "three"), self.machine.stages(), lines[1:]):
                self.assertEqual(line.split(" ")[:3], ["thread", name, stage])
                seen.add(stage)
            self.assertEqual("rest" in lines, self.machine.is_at_rest())
        self.assertEqual(seen, {"plain", "pausing", "trying", "lying", "asleep", "ending", "ended", "broken"})
        self.assertEqual(self.report(), [
            "memory 4 -7 -7", "thread one ended said 3 -5", "thread two ended", "thread three broken said 1", "rest"])

    def test_without_cells(self):
        program = read_program("thread one\nend")
        machine = Machine(program)
        self.assertEqual(machine_report(program, machine), ["memory", "thread one plain"])
        machine.settle()
        self.assertEqual(machine_report(program, machine), ["memory", "thread one ended", "rest"])


class RecordsReportTest(unittest.TestCase):
    def test_lines_of_records(self):
        program = read_program("thread ann\nend\nthread bob\nend")
        records = [
            Record(1, 3, 12, "done", {10: -4, 2: 5, 0: 0}, {7: 8, 1: -9}, 6),
            Record(0, 0, 4, "lost", {3: 1}, {}, 2),
            Record(0, 5, 6, "done", {}, {}, 0),
            Record(1, 7, 8, "undo", {}, {}, 3),
            Record(1, 9, 10, "retry", {1: 1, 0: 2}, {}, 3),
            Record(0, 11, 12, "fault", {4: 0}, {}, 3),
            Record(0, 13, 14, "done", {}, {0: 1}, 9),
        ]
        before = [(dict(vars(one)), list(one.reads), list(one.writes)) for one in records]
        self.assertEqual(records_report(program, records), [
            "bob done 3 12 stamp 6 reads 0=0 2=5 10=-4 writes 1=-9 7=8",
            "ann lost 0 4 reads 3=1",
            "ann done 5 6 stamp 0",
            "bob undo 7 8",
            "bob retry 9 10 reads 0=2 1=1",
            "ann fault 11 12 reads 4=0",
            "ann done 13 14 stamp 9 writes 0=1",
        ])
        self.assertEqual([(dict(vars(one)), list(one.reads), list(one.writes)) for one in records], before)
        self.assertEqual(records_report(program, []), [])

    def test_records_of_a_machine(self):
        program = read_program(TWO)
        machine = Machine(program, stripes=1)
        self.assertEqual(records_report(program, machine.records()), [])
        machine.run([0, 0, 1, 1])
        machine.settle()
        lines = records_report(program, machine.records())
        self.assertEqual([line.split(" ")[:2] for line in lines],
                         [["one", "done"], ["two", "lost"], ["two", "done"]])
        self.assertTrue(lines[0].startswith("one done 0 "))
        self.assertTrue(lines[0].endswith(" stamp 1 reads 0=0 writes 0=1"))
        self.assertTrue(lines[1].endswith(" reads 0=0"))
        # The one that was lost had ticked.
        self.assertTrue(lines[2].endswith(" stamp 3 reads 0=1 writes 0=2"))


class EndsReportTest(unittest.TestCase):
    def test_lines_of_ends(self):
        self.assertEqual(ends_report(read_program(TWO)), ["end 2 one ended two ended by 0 1", "end 1 one ended two ended by 1 0"])
        self.assertEqual(ends_report(read_program(LATE)), [
            "end 5 one ended said 5 two ended by 0 1 0", "end 5 one ended said 9 0 two ended by 0 t 0 1"])

    def test_every_kind_of_end(self):
        text = ("cell a 2 = 3\nthread one\nsay -1\nsay 2\natomic\nput a = 1 / 0\nend\nend\n"
                "thread two\nsay 6\natomic\nretry\nend\nend\nthread three\nend")
        self.assertEqual(ends_report(read_program(text)), [
            "end 3 3 one broken zero said -1 2 two asleep said 6 three ended by 0"])

    def test_no_cells_and_no_steps(self):
        self.assertEqual(ends_report(read_program("thread one\nend")), ["end one ended"])
        self.assertEqual(ends_report(read_program("thread one\nsay 0\nend")), ["end one ended said 0"])

    def test_what_exploring_finds(self):
        lines = ends_report(pauses(2, 0))
        self.assertEqual(lines, ["end one ended by 0 t t 0 0 0"])
        for program in drawn(40):
            try:
                found = explore(program)
            except TooLarge:
                continue
            lines = ends_report(program)
            self.assertEqual(len(lines), len(found))
            for line, (end, order) in zip(lines, found):
                words = ["t" if step == "tick" else str(step) for step in order]
                if words:
                    self.assertEqual(line.split(" by ")[1].split(" "), words)
                self.assertEqual(line.split(" ")[1:len(end[0]) + 1], [str(value) for value in end[0]])

    def test_too_many_states(self):
        with self.assertRaises(TooLarge) as caught:
            ends_report(pauses(1000, 1000, 1000))
        self.assertEqual(caught.exception.limit, "states")


class TogetherTest(unittest.TestCase):
    def test_a_machine_at_rest_has_one_of_the_ends(self):
        choice = random.Random(5)
        for program in drawn(40):
            try:
                ends = [line.split(" by ")[0] for line in ends_report(program)]
            except TooLarge:
                continue
            machine = Machine(program, stripes=2)
            machine.run(random_picks(choice, len(program.threads), 60))
            machine.settle()
            memory, *threads, rest = machine_report(program, machine)
            self.assertEqual(rest, "rest")
            words = ["end", *memory.split(" ")[1:]]
            for thread, end in zip(threads, machine.end()[1]):
                _, name, stage, *said = thread.split(" ")
                words += [name, stage, *end[1:], *said]
            self.assertIn(" ".join(words), ends)


if __name__ == "__main__":
    unittest.main()
