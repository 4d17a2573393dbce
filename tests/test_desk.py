import unittest

from handshaker.desk import Desk, answers_of
from handshaker.errors import HandshakerError, InvalidLine
from handshaker.machine import Record
from tests.examples import run_example

EXAMPLE = """
>>> from handshaker.desk import Desk
>>> desk = Desk()
>>> lines = ["cell a = 0", "thread one", "atomic", "put a = a + 1", "end", "end"]
>>> [desk.obey("text " + line) for line in lines][5], desk.obey("load 4")
(['lines 6'], ['loaded 1 1'])
>>> desk.obey("settle 100")[0][:4], desk.obey("show")
('did ', ['memory 1', 'thread one ended', 'rest'])
>>> desk.obey("check"), desk.obey("again"), desk.obey("ends")
(['serial yes', 'past yes'], ['same'], ['end 1 one ended by 0'])
>>> desk.obey("step 1")
['refused pick']
"""
ONE = ["cell a = 0", "thread one", "atomic", "put a = a + 1", "end", "end"]
TWO = ["cell a = 4", "cell b 3 = 7", "thread one", "say 3", "pause 2", "end",
       "thread two", "local x = 0", "atomic", "set x = a", "put b(1) = x", "end", "say x", "end"]
WORDS = ("text", "drop", "load", "step", "settle", "show", "records", "check", "ends", "again")
NEED_PROGRAM = ("step 0", "settle 1", "show", "records", "check", "ends", "again")


class Desks(unittest.TestCase):
    def setUp(self):
        self.desk = Desk()

    def load(self, rows, stripes=4):
        for row in rows:
            self.obey("text " + row)
        self.obey(f"load {stripes}")

    def obey(self, line):
        """Obey a line that is not refused; return the answer."""
        lines = self.desk.lines()
        answer = self.desk.obey(line)
        self.assertEqual(self.desk.lines(), [*lines, line])
        self.assertIsInstance(answer, list)
        self.assertFalse(answer and answer[0].startswith("refused"), (line, answer))
        return answer

    def told(self):
        """All that a desk tells, found without a change."""
        twin = Desk()
        for line in self.desk.lines():
            twin.obey(line)
        found = [self.desk.lines(), self.desk.picks(), twin.picks()]
        found += [twin.obey(line) for line in ("show", "records", "check", "ends", "again")]
        # The number of lines of the draft, and what they are.
        return [*found, twin.obey("text "), twin.obey("load 1"), twin.obey("show")]

    def assert_refused(self, line, reason):
        before = self.told()
        self.assertEqual(self.desk.obey(line), ["refused " + reason], line)
        self.assertEqual(self.told(), before)


class InterfaceTest(Desks):
    def test_example(self):
        run_example(self, EXAMPLE)

    def test_methods_stand_in_the_class(self):
        for name in ("obey", "lines", "picks"):
            self.assertIn(name, vars(Desk))

    def test_at_first(self):
        self.assertEqual((self.desk.lines(), self.desk.picks()), ([], []))

    def test_answers_of_lines(self):
        lines = ["text " + row for row in ONE] + ["nothing", "load 2", "step 0 0 t", "show", "load 0"]
        self.assertEqual(answers_of(lines), [
            *[[f"lines {k}"] for k in range(1, 7)], ["refused word"], ["loaded 1 1"], ["did 2"],
            ["memory 0", "thread one trying"], ["refused number"]])
        self.assertEqual(answers_of([]), [])
        with self.assertRaises(InvalidLine):
            answers_of(["drop", "\n", "drop"])

    def test_what_is_returned_is_new(self):
        self.load(ONE)
        self.obey("step 0")
        for found in (self.desk.lines(), self.desk.picks(), self.desk.obey("show"), self.desk.obey("records")):
            found.append("more")
        self.assertEqual(self.desk.picks(), [0])
        self.assertEqual(self.desk.obey("show"), ["memory 0", "thread one trying"])
        self.assertEqual(self.desk.lines(), [*["text " + row for row in ONE], "load 4", "step 0", "show", "records", "show"])


class LineTest(Desks):
    def test_invalid_lines(self):
        self.load(TWO)
        self.obey("step 0 1")
        before = self.told()
        for line in ("x" * 201, "text " + "a" * 196, "show\n", "\n", "text \t", "show\x7f", "text \u00e9", "\x1f", "text \u20ac",
                     "text a\r", "show" + " " * 197):
            with self.assertRaises(InvalidLine) as caught:
                self.desk.obey(line)
            self.assertEqual(caught.exception.line, line)
            self.assertIs(caught.exception.__class__, InvalidLine)
            self.assertIsInstance(caught.exception, HandshakerError)
            self.assertEqual(self.told(), before)

    def test_lines_that_are_just_not_too_long(self):
        self.assertEqual(self.obey("text " + "~" * 195), ["lines 1"])
        self.assertEqual(self.obey("text" + " " * 196), ["lines 2"])
        self.assert_refused("x" * 200, "word")
        self.assert_refused("", "word")

    def test_words(self):
        self.load(TWO)
        for line in ("", " ", "  ", " show", "Show", "shows", "sho", "texts", "text1", "texta b", "nothing", "0", "load4", "~",
                     "show ", "show  ", "load ", "load  4", "step  0", "step 0 ", "step 0  1", "settle  5", "drop ", "check ",
                     "records  ", "ends ", "again ", "show  x", "step ", " text a", "refused word", "memory"):
            self.assert_refused(line, "word")

    def test_numbers_of_words(self):
        self.load(TWO)
        for line in ("drop x", "drop drop", "load", "load 4 4", "step", "settle", "settle 1 2", "show x", "records 1",
                     "check check", "ends 1", "again 1", "again 1 2 3", "load x y", "settle t t", "step" + " 9" * 61):
            self.assert_refused(line, "count")

    def test_the_first_reason_counts(self):
        for line, reason in (("shew  ", "word"), ("show  x", "word"), ("step", "count"), ("settle", "count"),
                             ("step x", "none"), ("settle x", "none"), ("step 0", "none"), ("load 0", "number"),
                             ("load 4", "text 1 1 end"), ("step" + " x" * 61, "count"), ("settle 0 ", "word")):
            self.assert_refused(line, reason)

    def test_without_a_program(self):
        for line in NEED_PROGRAM:
            self.assert_refused(line, "none")
        for row in ONE:
            self.obey("text " + row)
        for line in NEED_PROGRAM:
            self.assert_refused(line, "none")


class DraftTest(Desks):
    def test_text(self):
        for number, line in enumerate(("text", "text ", "text  ", "text   two  words ", "text text", "text drop x"), 1):
            self.assertEqual(self.obey(line), [f"lines {number}"])

    def test_what_stands_behind_text(self):
        for line in ("text", "text   cell  a  =  -3", "text", "text thread ann", "text ", "text   ", "text end  ", "text"):
            self.obey(line)
        self.assertEqual(self.obey("load 1"), ["loaded 1 1"])
        self.assertEqual(self.obey("show"), ["memory -3", "thread ann plain"])

    def test_two_hundred_lines(self):
        for number in range(1, 201):
            self.assertEqual(self.desk.obey("text"), [f"lines {number}"])
        self.assert_refused("text", "full")
        self.assert_refused("text thread one", "full")
        self.assert_refused("load 1", "text 201 1 end")
        self.assertEqual(self.obey("drop"), ["dropped"])
        self.assertEqual(self.obey("text thread one"), ["lines 1"])

    def test_drop(self):
        self.assertEqual(self.obey("drop"), ["dropped"])
        for row in ONE[:3]:
            self.obey("text " + row)
        self.assertEqual(self.obey("drop"), ["dropped"])
        self.assertEqual(self.obey("text x"), ["lines 1"])

    def test_drop_keeps_the_machine(self):
        self.load(ONE)
        self.obey("step 0 t")
        shown = self.obey("show")
        self.obey("text x")
        self.obey("drop")
        self.assertEqual((self.obey("show"), self.desk.picks()), (shown, [0, -1]))


class LoadTest(Desks):
    def test_numbers_of_threads_and_cells(self):
        for rows, answer in ((ONE, "loaded 1 1"), (TWO, "loaded 2 4"), (["thread one", "end"], "loaded 1 0"),
                             (["channel c 4", "semaphore s 1", *["thread one", "end"]], "loaded 1 7")):
            for row in rows:
                self.obey("text " + row)
            self.assertEqual(self.obey("load 3"), [answer])

    def test_numbers_of_stripes(self):
        for row in ONE:
            self.obey("text " + row)
        for word in ("0", "65", "100", "64000000000000000000000000000000000000", "-1", "+1", "01", "004", "00", "x", "t", "4x",
                     "1.0", "1_0", "load", "~", "-"):
            self.assert_refused("load " + word, "number")
        for word in ("1", "9", "10", "64"):
            self.assertEqual(self.obey("load " + word), ["loaded 1 1"])
            for row in ONE:
                self.obey("text " + row)

    def test_the_number_of_stripes_counts(self):
        rows = ["cell a = 0", "cell b = 0", "thread one", "atomic", "put a = b", "end", "end",
                "thread two", "atomic", "put b = 1", "end", "end"]
        for stripes, kind in ((1, "lost"), (2, "done")):
            self.load(rows, stripes)
            # Cell 0 has been locked by the first one when the second one comes to lock cell 1.
            self.obey("step 0 0 0 0 0 1 1 1 1")
            lines = self.obey("records")
            self.assertEqual([line.split(" ")[:2] for line in lines], [["two", "lost"]] if kind == "lost" else [])
            self.obey("drop")

    def test_errors_of_texts(self):
        for rows, reason in ((["cell a = 0", "thread one", "say a", "end"], "text 3 5 outside"),
                             (["thread one", "say b", "end"], "text 2 5 unknown"),
                             (["cell a = 0", "cell a = 1", "thread one", "end"], "text 2 6 twice"),
                             (["thread one", "  say 1 1"], "text 2 9 expected"),
                             (["thread one", "say 012"], "text 2 5 number"), (["thread !"], "text 1 8 character"),
                             (["thread one"], "text 2 1 end"), (["", "", ""], "text 4 1 end"), ([], "text 1 1 end"),
                             (["thread one", "", ""], "text 4 1 end"), (["wrong"], "text 1 1 line"), ([""], "text 2 1 end")):
            self.obey("drop")
            for row in rows:
                self.obey("text " + row)
            self.assert_refused("load 4", reason)
            self.assert_refused("load 0", "number")

    def test_texts_that_are_too_large(self):
        rows = ["thread one", "end", *[" " * 190] * 104]
        self.load(rows)
        for row in [*rows, " " * 190]:
            self.obey("text " + row)
        self.assert_refused("load 4", "large")
        self.assert_refused("load 65", "number")

    def test_the_draft_is_empty_behind_it(self):
        self.load(ONE)
        self.assert_refused("load 4", "text 1 1 end")
        self.assertEqual(self.obey("text x"), ["lines 1"])

    def test_a_refused_load_keeps_draft_and_machine(self):
        self.load(ONE)
        self.obey("settle 3")
        shown = self.obey("show")
        self.obey("text thread")
        self.assert_refused("load 4", "text 1 7 expected")
        self.assertEqual((self.obey("show"), self.desk.picks()), (shown, [0, 0, 0]))
        self.assertEqual(self.obey("text"), ["lines 2"])

    def test_another_program(self):
        self.load(ONE)
        self.obey("settle 100")
        self.load(TWO)
        self.assertEqual(self.desk.picks(), [])
        self.assertEqual(self.obey("show"), ["memory 4 7 7 7", "thread one plain", "thread two plain"])
        self.assertEqual(self.obey("records"), [])


class StepTest(Desks):
    def setUp(self):
        super().setUp()
        self.load(TWO)

    def test_picks(self):
        self.assertEqual(self.obey("step 0 0"), ["did 2"])
        self.assertEqual(self.obey("step t 0 t t 1 0"), ["did 4"])
        self.assertEqual(self.desk.picks(), [0, 0, -1, 0, -1, -1, 1, 0])
        self.assertEqual(self.obey("show"), ["memory 4 7 7 7", "thread one plain said 3", "thread two trying"])
        self.assertEqual(self.obey("step t"), ["did 0"])
        self.assertEqual(self.desk.picks()[-1:], [-1])

    def test_sixty_picks(self):
        line = "step" + " 0 1 t" * 20
        self.assertRegex(self.obey(line)[0], r"\Adid [0-9]+\Z")
        self.assertEqual(self.desk.picks(), [0, 1, -1] * 20)
        self.assert_refused(line + " 0", "count")

    def test_wrong_picks(self):
        for word in ("2", "9", "-1", "00", "01", "T", "tt", "one", "x", "1x", "+0", "0.", "t0", "10", "99999999999999999999"):
            for line in (f"step {word}", f"step 0 1 t {word}", f"step {word} 0"):
                self.assert_refused(line, "pick")
        self.assertEqual(self.desk.picks(), [])


class SettleTest(Desks):
    def setUp(self):
        super().setUp()
        self.load(TWO)

    def test_settling(self):
        self.assertEqual(self.obey("settle 3"), ["did 3"])
        self.assertEqual(self.desk.picks(), [0, 0, 1])
        (answer,) = self.obey("settle 10000")
        picks = self.desk.picks()
        self.assertEqual(answer, f"did {len(picks) - 3}")
        self.assertIn(-1, picks)
        self.assertEqual(self.obey("show"), ["memory 4 7 4 7", "thread one ended said 3", "thread two ended said 4", "rest"])
        self.assertEqual(self.obey("settle 1"), ["did 0"])
        self.assertEqual(self.desk.picks(), picks)

    def test_wrong_numbers(self):
        for word in ("0", "10001", "-1", "01", "+5", "x", "t", "1e3", "99999999999999999999"):
            self.assert_refused("settle " + word, "number")


class ReportsTest(Desks):
    def test_records(self):
        self.load(TWO)
        self.assertEqual(self.obey("records"), [])
        self.obey("settle 1000")
        (line,) = self.obey("records")
        self.assertRegex(line, r"\Atwo done [0-9]+ [0-9]+ stamp 1 reads 0=4 writes 2=4\Z")

    def test_check(self):
        self.load(TWO)
        for _ in range(20):
            self.assertEqual(self.obey("check"), ["serial yes", "past yes"])
            self.obey("settle 1")

    def test_ends(self):
        self.load(TWO)
        ends = self.obey("ends")
        self.assertEqual(ends, ["end 4 7 4 7 one ended said 3 two ended said 4 by 0 1 t t 0"])
        self.obey("settle 5")
        self.assertEqual(self.obey("ends"), ends)

    def test_ends_that_are_too_many(self):
        self.load(["thread one", "pause 1000", "pause 1000", "pause 993", "end"])
        self.assertEqual(len(self.obey("ends")), 1)
        self.load(["thread one", "pause 1000", "pause 1000", "pause 994", "end"])
        self.assert_large("ends")

    def assert_large(self, line):
        lines = self.desk.lines()
        self.assertEqual(self.desk.obey(line), ["refused large"])
        self.assertEqual((self.desk.lines(), self.desk.picks()), (lines, []))

    def test_again(self):
        self.load(TWO)
        for line in ("step 0 0 1 t 0 1", "settle 3", "step t t", "settle 1000", "step 0"):
            self.obey(line)
            shown, picks = self.obey("show"), self.desk.picks()
            self.assertEqual(self.obey("again"), ["same"])
            self.assertEqual((self.obey("show"), self.desk.picks()), (shown, picks))

    def test_what_is_checked(self):
        # No line leads to the other answers: so what is kept is changed from outside.
        for change, answers in ((lambda record: record.reads.update({0: 5}), ["serial no", "past no"]),
                                (lambda record: record.writes.update({0: 5}), ["serial yes", "past yes"])):
            self.load(TWO)
            self.obey("settle 1000")
            self.assertEqual(self.obey("again"), ["same"])
            (record,) = self.desk._kept.machine.records()
            change(record)
            self.assertEqual(self.obey("check"), answers)
            self.assertEqual(self.obey("again"), ["other"])

    def test_what_is_compared(self):
        for picks in ([0], [0, 0], [1]):
            self.load(TWO)
            self.desk._kept.machine.run(picks)
            self.assertEqual(self.obey("again"), ["other"])

    def test_past_without_serial(self):
        self.load(TWO)
        self.obey("settle 1000")
        (record,) = self.desk._kept.machine.records()
        record.ended, record.begun = 3, 1
        lost = Record(0, 5, 6, "lost", {2: 7}, {}, 0)
        self.desk._kept.machine._records.append(lost)
        self.assertEqual(self.obey("check"), ["serial no", "past no"])
        lost.begun, lost.reads = 2, {2: 4}
        self.assertEqual(self.obey("check"), ["serial yes", "past yes"])

    def test_reports_change_nothing(self):
        self.load(TWO)
        self.obey("step 0 1 1")
        picks = self.desk.picks()
        first = [self.obey(line) for line in ("show", "records", "check", "ends", "again")]
        self.assertEqual([self.obey(line) for line in ("show", "records", "check", "ends", "again")], first)
        self.assertEqual(self.desk.picks(), picks)


if __name__ == "__main__":
    unittest.main()
