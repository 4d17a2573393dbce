import random
import unittest

from handshaker.flat import flat_block, flat_thread, has_cells
from handshaker.reader import read_program
from handshaker.syntax import Thread
from handshaker.values import first_memory
from handshaker.walk import walk_block
from tests.blocks import BLOCK_WORDS, CELLS, THREAD_WORDS, body_of, check_code, expression_of, snapshot
from tests.examples import run_example
from tests.programs import Maker
from tests.threads import alone_by_code, alone_by_statements

EXAMPLE = """
>>> from handshaker.flat import flat_block, has_cells
>>> has_cells(("not", ("cell", "a", ("number", 0)))), has_cells(("local", "x"))
(True, False)
"""


def blocks_in(statements):
    """The block statements in a list of statements, in order."""
    found = []
    for statement in statements:
        if statement[0] == "block":
            found += [statement, *blocks_in(statement[3])]
        elif statement[0] in ("if", "repeat"):
            for inner in statement[2:]:
                found += blocks_in(inner)
    return found


class ExampleTest(unittest.TestCase):
    def test_example(self):
        run_example(self, EXAMPLE)


class HasCellsTest(unittest.TestCase):
    def test_where_cells_stand(self):
        for text in ("a", "b(1)", "-a", "not b", "x + a", "a + x", "x and (y or not -(1 / b(x)))", "b(b(1))"):
            self.assertIs(has_cells(expression_of(text)), True)
        for text in ("1", "x", "-x", "not (x and y) or x / (2 rest y) <= 3", "-5"):
            self.assertIs(has_cells(expression_of(text)), False)

    def test_deep_expressions(self):
        rows = ((("local", "x"), False), (("cell", "a", ("number", 0)), True))
        for expression, expected in rows:
            for _ in range(9000):
                expression = ("plus", expression, ("number", 1))
            self.assertIs(has_cells(expression), expected)


class FlatBlockTest(unittest.TestCase):
    def test_the_slots_of_the_locals_are_the_first_ones(self):
        code, count = flat_block(body_of("set x = 7\nset y = 8"), CELLS, ["x", "y"])
        self.assertEqual(code, [("set", 0, ("number", 7)), ("set", 1, ("number", 8))])
        self.assertEqual(count, 2)
        self.assertEqual(flat_block(body_of("set x = 7"), CELLS, ["y", "x"])[0], [("set", 1, ("number", 7))])
        self.assertEqual(flat_block([], [], []), ([], 0))

    def test_locals_that_are_not_used_have_slots(self):
        code, count = flat_block(body_of("repeat 2\nset x = x + a\nend"), CELLS, ["p", "q", "x", "y"])
        self.assertGreater(count, 4)
        outcome = walk_block(code, [10, 20, 30, 40] + [99] * (count - 4), 4, [5, 0, 0, 0])
        self.assertEqual(outcome.finals, [10, 20, 40, 40])

    def test_no_more_slots_and_instructions_than_needed(self):
        once, many = [flat_block(body_of("set x = a + b\n" * times), CELLS, ["x", "y"]) for times in (1, 9)]
        self.assertEqual((len(many[0]), many[1]), (9 * len(once[0]), once[1]))
        words = [[one[0] for one in flat_block(body_of(text), CELLS, ["x", "y"])[0]]
                 for text in ("put b(1) = a", "put b(x) = a", "set x = 3 * y + a", "set x = y + a")]
        self.assertEqual(words, [["load", "put"], ["load", "put"], ["set", "load", "set"], ["load", "set"]])

    def test_a_kind_of_statement_each(self):
        for text in ("set x = a", "put b(a) = a", "if a\nelse\nend", "repeat a\nretry\nend", "choose\nor\nend",
                     "later a", "retry", "undo", "choose\nretry\nor\nundo\nend", "if a\nundo\nend"):
            code, count = flat_block(body_of(text), CELLS, ["x", "y"])
            check_code(self, code, count, BLOCK_WORDS)

    def test_what_is_returned_is_new(self):
        body = body_of("put a = b\nchoose\nset x = a\nor\nend")
        before = snapshot(body)
        names = ["x", "y"]
        code, count = flat_block(body, CELLS, names)
        self.assertEqual((body, names, CELLS), (before, ["x", "y"], [("a", 1, 5), ("b", 3, 0)]))
        kept = list(code)
        code.clear()
        self.assertEqual(flat_block(body, CELLS, names), (kept, count))


class FlatThreadTest(unittest.TestCase):
    def flat(self, text):
        program = read_program("cell a = 5\nthread one\nlocal x = 2\nlocal y = -1\n" + text + "\nend")
        thread = program.threads[0]
        code, count = flat_thread(thread, program.cells)
        self.check(thread, code, count)
        return program, code, count

    def check(self, thread, code, count):
        check_code(self, code, count, THREAD_WORDS)
        self.assertGreaterEqual(count, len(thread.variables))
        blocks = [one for one in code if one[0] == "block"]
        statements = blocks_in(thread.body)
        self.assertEqual([one[2] is None for one in blocks], [one[1] is None for one in statements])
        names = [name for name, _ in thread.variables]
        self.assertEqual(len(blocks), len(statements))
        return blocks, statements, names

    def alone(self, text):
        program, code, count = self.flat(text)
        return self.both_ways(program.threads[0], program.cells, [5], code, count)

    def both_ways(self, thread, cells, memory, code, count):
        many = len(thread.variables)
        first = [value for _, value in thread.variables]
        found = alone_by_statements(thread, cells, memory)
        for value in (0, 1, 17, -1000000000):
            frame = first + [value] * (count - many)
            self.assertEqual(alone_by_code(code, frame, many, memory), found)
        return found

    def test_statements(self):
        self.assertEqual(self.alone(""), [("ended",)])
        self.assertEqual(self.alone("set x = 7\nsay x\nsay y"), [("say", 7), ("say", -1), ("ended",)])
        self.assertEqual(self.alone("pause x + 4\nsay 1"), [("pause", 6), ("say", 1), ("ended",)])
        self.assertEqual(self.alone("if x\nsay 1\nelse\nsay 2\nend\nsay 3"), [("say", 1), ("say", 3), ("ended",)])
        self.assertEqual(self.alone("if x = 1\nsay 1\nelse\nsay 2\nend\nsay 3"), [("say", 2), ("say", 3), ("ended",)])
        self.assertEqual(self.alone("if x = 1\nsay 1\nend"), [("ended",)])
        self.assertEqual(self.alone("if 0\nelse\nend\nsay 4"), [("say", 4), ("ended",)])

    def test_repeat(self):
        for times in (0, 1, 20):
            self.assertEqual(self.alone(f"repeat {times}\nsay x\nset x = x + 1\nend"),
                             [*[("say", 2 + k) for k in range(times)], ("ended",)])
        for times in ("-1", "21", "y", "x * 11"):
            self.assertEqual(self.alone(f"say 4\nrepeat {times}\nsay 5\nend"), [("say", 4), ("fault", "count")])

    def test_repeats_within_one_another_with_values_from_before(self):
        text = "repeat 3\nset x = x + 10\nend\nrepeat 2\nrepeat y + 3\nsay x\nset x = x + 1\nend\nset y = y + 1\nend\n"
        text += "repeat 1\nrepeat 0\nsay 99\nend\nend"
        self.assertEqual([one[1] for one in self.alone(text)[:-1]], [32, 33, 34, 35, 36])

    def test_blocks_leave_the_counters_of_the_thread_alone(self):
        text = "repeat 2\nrepeat 3\natomic\nset x = x + a + (a and a)\nput a = a + 1\nend\nend\nsay x\nend"
        found = self.alone(text)
        self.assertEqual([one[0] for one in found], ["block", "block", "block", "say"] * 2 + ["ended"])
        text = "repeat 5\natomic\nrepeat 4\nset x = x + a\nput a = a + 1\nend\nlater x\nend\nend"
        self.assertEqual([one[0] for one in self.alone(text)], ["block", "said"] * 5 + ["ended"])

    def test_blocks_with_limit_and_late(self):
        text = "atomic within x\nretry\nlate\nsay 1\natomic within 7\nretry\nend\nsay 2\nend\nsay 3"
        found = [one[:2] for one in self.alone(text)]
        self.assertEqual(found, [("block", 2), ("say", 1), ("block", 7), ("say", 2), ("say", 3), ("ended",)])
        text = "atomic within x\nput a = 1\nlate\nsay 1\nend\nsay 3"
        self.assertEqual([one[:2] for one in self.alone(text)], [("block", 2), ("say", 3), ("ended",)])
        text = "atomic within 0\nundo\nlate\nsay 1\nend\nsay 3"
        self.assertEqual([one[:2] for one in self.alone(text)], [("block", 0), ("say", 3), ("ended",)])

    def test_where_a_late_block_goes_on(self):
        _, code, _ = self.flat("atomic within x\nlate\nsay 1\nend")
        at, block = [(at, one) for at, one in enumerate(code) if one[0] == "block"][0]
        self.assertEqual((block[2], code[block[3]][0]), (("slot", 0), "say"))
        self.assertNotEqual(block[3], at + 1)
        _, code, _ = self.flat("atomic\nundo\nend")
        self.assertEqual(code, [("block", [("undo",)], None, 1)])

    def test_faults_of_limits_and_blocks(self):
        for ticks in ("-1", "1001", "y"):
            self.assertEqual(self.alone(f"atomic within {ticks}\nend"), [("fault", "count")])
            self.assertEqual(self.alone(f"pause {ticks}"), [("fault", "count")])
        self.assertEqual(self.alone("atomic\nput a = 1 / 0\nend\nsay 1")[1:], [("fault", "zero")])

    def test_blocks_in_order(self):
        text = "if x\natomic\nlater 1\nend\nelse\natomic\nlater 2\nend\nend\nrepeat 2\natomic within 3\nlater 3\nlate\n"
        text += "atomic\nlater 4\nend\nend\nend\natomic within 9\nlater 5\nend"
        _, code, _ = self.flat(text)
        blocks = [one for one in code if one[0] == "block"]
        self.assertEqual([one[1] for one in blocks], [[("later", ("number", k))] for k in (1, 2, 3, 4, 5)])
        self.assertEqual([one[2] for one in blocks], [None, None, ("number", 3), None, ("number", 9)])

    def test_what_is_passed_stays(self):
        text = "cell a = 1\nthread one\nlocal x = 0\natomic\nset x = a\nend\nrepeat x\nsay x\nend\nend"
        thread = read_program(text).threads[0]
        before = snapshot([thread.variables, thread.body])
        cells = [("a", 1, 1)]
        code, count = flat_thread(thread, cells)
        self.assertEqual(([thread.variables, thread.body], cells), (before, [("a", 1, 1)]))
        kept = snapshot(code)
        code[0][1].clear()
        code.clear()
        self.assertEqual(flat_thread(thread, cells), (kept, count))

    def test_lists_deeper_than_they_may_stand(self):
        body = [("say", ("local", "x"))]
        for _ in range(40):
            body = [("if", ("number", 1), body, [])]
        thread = Thread("one", [("x", 3)], body)
        code, count = flat_thread(thread, [])
        self.assertEqual(self.both_ways(thread, [], [], code, count), [("say", 3), ("ended",)])

    def test_many_threads(self):
        kinds = {}
        for seed in range(400):
            program = Maker(random.Random(seed)).program()
            memory = first_memory(program.cells)
            for thread in program.threads:
                code, count = flat_thread(thread, program.cells)
                blocks, statements, names = self.check(thread, code, count)
                for block, statement in zip(blocks, statements):
                    one, _ = flat_block(statement[2], program.cells, names)
                    self.assertEqual([row[0] for row in block[1]], [row[0] for row in one])
                found = self.both_ways(thread, program.cells, memory, code, count)
                kinds[found[-1][0]] = kinds.get(found[-1][0], 0) + 1
        self.assertGreater(min(kinds.get(kind, 0) for kind in ("ended", "fault", "block")), 40)


if __name__ == "__main__":
    unittest.main()
