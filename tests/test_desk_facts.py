"""What holds for every desk, on drawn programs and lines."""

import random
import unittest

from handshaker.desk import Desk, answers_of
from handshaker.errors import TextError, TooLarge
from handshaker.machine import Machine
from handshaker.reader import read_program
from handshaker.report import ends_report, machine_report, records_report
from handshaker.writer import write_program
from tests.test_explore import drawn

LINES = ("text", "text thread one", "text end", "drop", "load 4", "load", "load 70", "step", "step 0", "step 7", "step t t t",
         "settle 4", "settle 0", "show", "show ", "records", "check", "again", "ends", "", "other", "step 0 1 t x")


class FactsTest(unittest.TestCase):
    def test_drawn_programs(self):
        kinds = set()
        for seed, program in enumerate(drawn(120)):
            choice = random.Random(seed)
            text = write_program(program)
            if len(text.split("\n")) > 200 or max(map(len, text.split("\n"))) > 195:
                continue
            desk, stripes = Desk(), choice.randint(1, 6)
            for row in text.split("\n"):
                desk.obey("text " + row)
            self.assertEqual(desk.obey(f"load {stripes}")[0][:7], "loaded ")
            machine = Machine(program, stripes=stripes)
            for _ in range(choice.randint(1, 12)):
                self.go_on(choice, desk, machine, program)
                self.compare(desk, machine, program)
                kinds |= {record.kind for record in machine.records()}
            self.at_rest(desk, machine, program)
        self.assertEqual(kinds, {"done", "undo", "retry", "fault", "lost"})

    def go_on(self, choice, desk, machine, program):
        if choice.random() < 0.3:
            most = choice.randint(1, 30)
            self.assertEqual(desk.obey(f"settle {most}"), [f"did {len(machine.settle(most=most))}"])
            return
        picks = [choice.randrange(-1, len(program.threads)) for _ in range(choice.randint(1, 60))]
        line = "step " + " ".join("t" if pick == -1 else str(pick) for pick in picks)
        self.assertEqual(desk.obey(line), [f"did {machine.run(picks)}"])

    def compare(self, desk, machine, program):
        self.assertEqual(desk.obey("show"), machine_report(program, machine))
        self.assertEqual(desk.obey("records"), records_report(program, machine.records()))
        self.assertEqual(desk.obey("check"), ["serial yes", "past yes"])
        self.assertEqual(desk.obey("again"), ["same"])

    def at_rest(self, desk, machine, program):
        machine.settle()
        while desk.obey("show")[-1] != "rest":
            desk.obey("settle 10000")
        self.compare(desk, machine, program)
        try:
            expected = ends_report(program)
        except TooLarge:
            self.assertEqual(desk.obey("ends"), ["refused large"])
            return
        self.assertEqual(desk.obey("ends"), expected)
        memory, ends, said = machine.end()
        words = ["end", *[str(value) for value in memory]]
        for thread, end, values in zip(program.threads, ends, said):
            words += [thread.name, *end, *(["said", *[str(value) for value in values]] if values else [])]
        self.assertIn(" ".join(words), [line.split(" by ")[0] for line in expected])

    def test_drawn_lines(self):
        refused = 0
        for seed in range(150):
            choice = random.Random(seed)
            lines = [choice.choice(LINES) for _ in range(choice.randint(0, 60))]
            desk = Desk()
            answers = [desk.obey(line) for line in lines]
            self.assertEqual(answers_of(lines), answers)
            good = [line for line, answer in zip(lines, answers) if not (answer and answer[0].startswith("refused "))]
            refused += len(lines) - len(good)
            # Without the refused lines all is the same.
            self.assertEqual(desk.lines(), good)
            twin = Desk()
            self.assertEqual([twin.obey(line) for line in good], [
                answer for answer in answers if not (answer and answer[0].startswith("refused "))])
            self.assertEqual(twin.picks(), desk.picks())
            for line in ("show", "records", "check", "ends", "again", "text", "load 3", "show"):
                self.assertEqual(twin.obey(line), desk.obey(line))
        self.assertGreater(refused, 1000)

    def test_errors_are_those_of_reading(self):
        for seed, program in enumerate(drawn(60)):
            choice = random.Random(seed)
            rows = write_program(program).split("\n")[:-1]
            if len(rows) > 199 or max(map(len, rows)) > 190:
                continue
            at = choice.randrange(len(rows))
            rows[at] = choice.choice(("", "end", "local", rows[at] + " 1", rows[at][:-1], "?", "set x = (1", "else"))
            desk = Desk()
            for row in rows:
                desk.obey("text " + row)
            try:
                read_program("".join(row + "\n" for row in rows))
                self.assertEqual(desk.obey("load 1")[0][:7], "loaded ")
            except TextError as error:
                self.assertEqual(desk.obey("load 1"), [f"refused text {error.line} {error.column} {error.reason}"])


if __name__ == "__main__":
    unittest.main()
