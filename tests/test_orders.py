import itertools
import random
import unittest

from handshaker.errors import TooLarge
from handshaker.machine import Machine, Record, stamped
from handshaker.orders import agrees, find_order, have_pasts, is_order, memory_behind, pasts
from handshaker.reader import read_program
from handshaker.values import first_memory
from tests.examples import run_example
from tests.facts import copied
from tests.test_machine_facts import PROGRAMS, program_of, random_picks

EXAMPLE = """
>>> from handshaker.machine import Record
>>> from handshaker.orders import find_order, is_order, memory_behind, pasts
>>> first = Record(0, 0, 5, "done", {0: 0}, {0: 1}, 1)
>>> second = Record(1, 1, 6, "done", {0: 1}, {0: 2}, 2)
>>> third = Record(2, 2, 7, "lost", {0: 1}, {}, 2)
>>> records = [second, first, third]
>>> find_order([0], records), is_order([0], records, [0, 1]), memory_behind([0], records, [1, 0], 1)
([1, 0], False, [1])
>>> pasts([0], records, [1, 0], 2), find_order([5], records) is None
([1], True)
"""


def done(begun, ended, reads, writes):
    return Record(0, begun, ended, "done", reads, writes, 1)


def lost(begun, ended, reads, kind="lost"):
    return Record(1, begun, ended, kind, reads, {}, 0)


def told_of(records):
    return [copied(vars(record)) for record in records]


# The same, written down from the document word by word.

def behind_as_told(memory, records, order, k):
    values = dict(enumerate(memory))
    for at in order[:k]:
        values.update(records[at].writes)
    return [values[cell] for cell in range(len(memory))]


def fits_as_told(reads, memory):
    return all(cell in range(len(memory)) and memory[cell] == value for cell, value in reads.items())


def is_past_as_told(memory, records, order, index, k):
    record = records[index]
    before = [at for at, other in enumerate(records) if other.kind == "done" and other.ended < record.begun]
    return (fits_as_told(record.reads, behind_as_told(memory, records, order, k))
            and all(at in order[:k] for at in before)
            and not any(records[at].begun > record.ended for at in order[:k]))


def pasts_as_told(memory, records, order, index):
    return [k for k in range(len(order) + 1) if is_past_as_told(memory, records, order, index, k)]


def is_order_as_told(memory, records, order):
    for at, record in enumerate(records):
        if order.count(at) != (1 if record.kind == "done" else 0):
            return False
    if any(at not in range(len(records)) for at in order):
        return False
    for k, at in enumerate(order):
        if not fits_as_told(records[at].reads, behind_as_told(memory, records, order, k)):
            return False
    for place, at in enumerate(order):
        for other in order[place + 1:]:
            if records[other].ended < records[at].begun:
                return False
    return all(pasts_as_told(memory, records, order, at)
               for at, record in enumerate(records) if record.kind != "done")


def find_as_told(memory, records):
    indexes = [at for at, record in enumerate(records) if record.kind == "done"]
    for order in itertools.permutations(indexes):
        if is_order_as_told(memory, records, list(order)):
            return list(order)
    return None


class Drawer:
    """Draws lists of records, most of which have an order."""

    def __init__(self, choice):
        self.choice = choice

    def value(self):
        return self.choice.randint(0, 1)

    def reads(self, memory):
        cells = [cell for cell in range(len(memory)) if self.choice.random() < 0.4]
        if self.choice.random() < 0.03:
            return {self.choice.choice((-1, len(memory), 9)): self.value()}
        return {cell: self.value() if self.choice.random() < 0.07 else memory[cell] for cell in cells}

    def span(self, place):
        # Often one ends in the moment in which another one begins.
        begun = max(0, 3 * place - self.choice.randint(0, 8))
        return begun, 3 * place + self.choice.randint(0, 8)

    def records(self, many, others):
        memory = [self.value() for _ in range(self.choice.randint(0, 3))]
        first = list(memory)
        found, memories = [], [list(memory)]
        for place in range(many):
            writes = {cell: self.value() for cell in range(len(memory)) if self.choice.random() < 0.5}
            found.append(done(*self.span(place), self.reads(memory), writes))
            memory = [writes.get(cell, value) for cell, value in enumerate(memory)]
            memories.append(memory)
        for _ in range(others):
            place = self.choice.randint(0, many)
            kind = self.choice.choice(("lost", "retry", "undo", "fault"))
            found.append(lost(*self.span(place), self.reads(memories[place]), kind))
        if self.choice.random() < 0.7:
            self.choice.shuffle(found)
        return first, found


class MemoryTest(unittest.TestCase):
    def test_example(self):
        run_example(self, EXAMPLE)

    def test_memories_behind(self):
        records = [done(0, 1, {}, {1: 7}), lost(0, 9, {}), done(2, 3, {}, {0: 5, 1: 8}), done(4, 5, {}, {})]
        memory, order = [1, 2, 3], [2, 0, 3]
        before = told_of(records)
        expected = [[1, 2, 3], [5, 8, 3], [5, 7, 3], [5, 7, 3]]
        self.assertEqual([memory_behind(memory, records, order, k) for k in range(4)], expected)
        self.assertEqual(memory_behind(memory, records, [0, 2], 2), [5, 8, 3])
        self.assertEqual(memory_behind(memory, records, [], 0), [1, 2, 3])
        self.assertEqual((memory, order, told_of(records)), ([1, 2, 3], [2, 0, 3], before))

    def test_memories_are_new(self):
        memory, records = [1], [done(0, 1, {}, {})]
        for k in (0, 1):
            found = memory_behind(memory, records, [0], k)
            self.assertIsInstance(found, list)
            found.append(9)
        self.assertEqual(memory, [1])

    def test_reads_that_agree_or_do_not(self):
        self.assertIs(agrees({}, []), True)
        self.assertIs(agrees({0: 4, 2: 6}, [4, 5, 6]), True)
        self.assertIs(agrees({0: 4, 2: 7}, [4, 5, 6]), False)
        self.assertIs(agrees({0: 5}, [4, 5, 6]), False)

    def test_a_cell_that_the_memory_does_not_have_does_not_agree(self):
        for cell, value in ((3, 6), (3, 0), (-1, 6), (-3, 4), (100, 0)):
            self.assertIs(agrees({cell: value}, [4, 5, 6]), False)
            self.assertIs(agrees({0: 4, cell: value}, [4, 5, 6]), False)
        self.assertIs(agrees({0: 0}, []), False)


class PastsTest(unittest.TestCase):
    def test_reads_must_agree(self):
        records = [done(0, 9, {}, {0: 1}), done(0, 9, {}, {0: 0}), lost(0, 9, {0: 0}), lost(0, 9, {0: 1}),
                   lost(0, 9, {}), lost(0, 9, {0: 2}), lost(0, 9, {1: 0})]
        found = [pasts([0], records, [0, 1], at) for at in range(2, 7)]
        self.assertEqual(found, [[0, 2], [1], [0, 1, 2], [], []])

    def test_those_that_had_ended_are_among_the_first(self):
        records = [done(0, 3, {}, {}), done(1, 5, {}, {}), lost(4, 9, {}), lost(6, 9, {}), lost(3, 9, {}), lost(5, 9, {})]
        found = [pasts([], records, [0, 1], at) for at in range(2, 6)]
        self.assertEqual(found, [[1, 2], [2], [0, 1, 2], [1, 2]])
        # The other one comes first, and both are needed for the one that had ended.
        self.assertEqual(pasts([], records, [1, 0], 2), [2])

    def test_none_of_the_first_began_after_it_ended(self):
        records = [done(2, 30, {}, {}), done(4, 30, {}, {}), lost(0, 1, {}), lost(0, 3, {}), lost(0, 2, {}), lost(0, 4, {})]
        found = [pasts([], records, [0, 1], at) for at in range(2, 6)]
        self.assertEqual(found, [[0], [0, 1], [0, 1], [0, 1, 2]])
        self.assertEqual(pasts([], records, [1, 0], 3), [0])

    def test_a_done_record_that_is_missing_in_the_order(self):
        records = [done(0, 3, {}, {}), done(0, 9, {}, {}), lost(5, 9, {}), lost(2, 9, {})]
        self.assertEqual(pasts([], records, [1], 2), [])
        self.assertEqual(pasts([], records, [1], 3), [0, 1])

    def test_pasts_of_done_records(self):
        records = [done(0, 3, {0: 0}, {0: 1}), done(1, 4, {0: 1}, {0: 0}), done(9, 12, {0: 0}, {})]
        self.assertEqual([pasts([0], records, [0, 1, 2], at) for at in range(3)], [[0, 2], [1], [2, 3]])

    def test_drawn_records(self):
        some = 0
        for seed in range(400):
            choice = random.Random(seed)
            memory, records = Drawer(choice).records(choice.randint(0, 5), choice.randint(0, 3))
            order = [at for at, record in enumerate(records) if record.kind == "done"]
            choice.shuffle(order)
            if choice.random() < 0.3:
                order = order[1:]
            before = told_of(records), list(memory), list(order)
            for index in range(len(records)):
                found = pasts(memory, records, order, index)
                self.assertEqual(found, pasts_as_told(memory, records, order, index))
                some += len(found)
            each = all(pasts_as_told(memory, records, order, index) for index in range(len(records)))
            self.assertIs(have_pasts(memory, records, order), each)
            self.assertEqual((told_of(records), memory, order), before)
        self.assertGreater(some, 1000)


class IsOrderTest(unittest.TestCase):
    def setUp(self):
        self.records = [done(0, 5, {0: 0}, {0: 1}), lost(2, 7, {0: 1}), done(1, 6, {0: 1}, {0: 2})]

    def judge(self, order):
        return is_order([0], self.records, order)

    def test_an_order(self):
        self.assertIs(self.judge([0, 2]), True)
        self.assertIs(is_order([7], [], []), True)

    def test_a_done_record_is_left_out(self):
        for order in ([], [0], [2]):
            self.assertIs(self.judge(order), False)

    def test_a_record_stands_twice(self):
        for order in ([0, 2, 2], [0, 0, 2], [0, 2, 0]):
            self.assertIs(self.judge(order), False)
        twice = [done(0, 1, {}, {})]
        self.assertIs(is_order([], twice, [0, 0]), False)

    def test_another_one_stands_in_it(self):
        for order in ([0, 1, 2], [0, 2, 1], [1], [0, 2, 3], [0, 2, -1], [0, -1], [-3, 2], [0, 2, 1000000]):
            self.assertIs(self.judge(order), False)

    def test_reads_must_agree(self):
        self.assertIs(self.judge([2, 0]), False)
        self.assertIs(is_order([1], self.records, [0, 2]), False)
        self.assertIs(is_order([], self.records, [0, 2]), False)

    def test_time_is_kept(self):
        records = [done(0, 3, {}, {}), done(4, 8, {}, {}), done(3, 9, {}, {})]
        good = [order for order in itertools.permutations(range(3)) if is_order([], records, list(order))]
        self.assertEqual(good, [(0, 1, 2), (0, 2, 1), (2, 0, 1)])

    def test_a_record_that_is_not_done_has_no_past(self):
        for kind in ("lost", "retry", "undo", "fault"):
            for wrong in (lost(2, 7, {0: 5}, kind), lost(7, 9, {0: 1}, kind), lost(0, 0, {0: 2}, kind)):
                self.records[1] = wrong
                self.assertIs(self.judge([0, 2]), False)
            for right in (lost(2, 7, {0: 0}, kind), lost(7, 9, {0: 2}, kind), lost(0, 0, {0: 0}, kind)):
                self.records[1] = right
                self.assertIs(self.judge([0, 2]), True)

    def test_drawn_records(self):
        verdicts = []
        for seed in range(500):
            choice = random.Random(seed)
            memory, records = Drawer(choice).records(choice.randint(0, 4), choice.randint(0, 2))
            before = told_of(records), list(memory)
            indexes = [at for at, record in enumerate(records) if record.kind == "done"]
            for order in itertools.permutations(indexes):
                verdict = is_order(memory, records, list(order))
                self.assertIs(verdict, is_order_as_told(memory, records, list(order)))
                verdicts.append(verdict)
            self.assertEqual((told_of(records), memory), before)
        self.assertGreater(verdicts.count(True), 300)
        self.assertGreater(verdicts.count(False), 300)


class FindTest(unittest.TestCase):
    def test_nothing_to_order(self):
        self.assertEqual(find_order([1], []), [])
        self.assertEqual(find_order([1], [lost(0, 1, {0: 1}), lost(2, 3, {})]), [])
        self.assertIsNone(find_order([1], [lost(0, 1, {0: 2})]))

    def test_the_least_one(self):
        free = [done(0, 99, {}, {}) for _ in range(5)]
        self.assertEqual(find_order([], free), [0, 1, 2, 3, 4])
        self.assertEqual(find_order([], [*free[:2], done(0, 1, {}, {}), done(2, 3, {}, {})]), [0, 1, 2, 3])
        self.assertEqual(find_order([], [done(9, 99, {}, {}), done(0, 99, {}, {}), done(0, 8, {}, {})]), [1, 2, 0])

    def test_a_record_that_is_not_done_decides(self):
        records = [done(0, 9, {}, {0: 1}), done(0, 9, {}, {0: 2}), lost(0, 9, {0: 2, 1: 0}), done(0, 9, {}, {1: 1})]
        self.assertEqual(find_order([0, 0], records), [0, 1, 3])
        records[2] = lost(0, 9, {0: 2, 1: 1})
        self.assertEqual(find_order([0, 0], records), [0, 1, 3])
        records.append(lost(0, 9, {0: 0, 1: 1}))
        self.assertEqual(find_order([0, 0], records), [3, 0, 1])

    def test_moments_that_are_the_same(self):
        one = done(3, 9, {}, {0: 1})
        for other, order in ((lost(0, 3, {0: 1}), [0]), (lost(0, 2, {0: 1}), None), (lost(9, 12, {0: 0}), [0]),
                             (lost(10, 12, {0: 0}), None), (done(9, 12, {0: 0}, {}), [1, 0]), (done(10, 12, {0: 0}, {}), None)):
            self.assertEqual(find_order([0], [one, other]), order)

    def test_eight_and_nine_done_records(self):
        eight = [done(0, 99, {0: at}, {0: at + 1}) for at in range(8)][::-1]
        others = [lost(0, 99, {0: at}) for at in range(9)] * 3
        self.assertEqual(find_order([0], [*eight, *others]), [7, 6, 5, 4, 3, 2, 1, 0])
        self.assertIsNone(find_order([0], [*eight, lost(0, 99, {0: 9})]))
        nine = [*eight, done(0, 99, {}, {})]
        for records in (nine, [*others, *nine], [*nine, lost(0, 1, {5: 5})], nine * 2):
            with self.assertRaises(TooLarge) as caught:
                find_order([0], records)
            self.assertEqual(caught.exception.limit, "records")
            self.assertIs(caught.exception.__class__, TooLarge)

    def test_eight_that_nothing_orders(self):
        free = [done(0, 99, {}, {at: 1}) for at in range(8)]
        self.assertIsNone(find_order([0] * 8, [*free, lost(0, 99, {0: 7})]))
        # The last one before the first one: all but the least orders are gone through in vain.
        self.assertEqual(find_order([0] * 8, [*free, lost(0, 99, {7: 1, 0: 0})]), [1, 2, 3, 4, 5, 6, 7, 0])

    def test_drawn_records(self):
        found = []
        for seed in range(600):
            choice = random.Random(seed)
            memory, records = Drawer(choice).records(choice.randint(0, 5), choice.randint(0, 4))
            before = told_of(records), list(memory)
            order = find_order(memory, records)
            self.assertEqual(order, find_as_told(memory, records))
            self.assertEqual((told_of(records), memory), before)
            found.append(order)
            if order is not None:
                self.assertIs(is_order(memory, records, order), True)
                self.without_one_that_is_not_done(memory, records, order)
        self.assertGreater(found.count(None), 50)
        self.assertGreater(len(found) - found.count(None), 200)

    def without_one_that_is_not_done(self, memory, records, order):
        """Point 53: an order remains if one is left out, and if one without reads is added."""
        for at, record in enumerate(records):
            if record.kind != "done":
                self.assertIsNotNone(find_order(memory, records[:at] + records[at + 1:]))
        for begun, ended in ((0, 0), (3, 17), (40, 60), (1000, 1001)):
            for kind in ("lost", "retry", "undo", "fault"):
                added = [*records, lost(begun, ended, {}, kind)]
                self.assertIs(is_order(memory, added, order), True)
                self.assertEqual(find_order(memory, added), order)


class KeptRecordsTest(unittest.TestCase):
    def test_records_of_machines_have_orders(self):
        found = 0
        for seed in range(200):
            choice = random.Random(seed)
            program = program_of(seed, choice) if seed % 2 else read_program(PROGRAMS[seed // 2 % len(PROGRAMS)])
            machine = Machine(program, stripes=choice.randint(1, 5))
            memory = first_memory(program.cells)
            for _ in range(choice.randint(1, 5)):
                machine.run(random_picks(choice, len(program.threads), choice.randint(0, 60)))
                self.judge(memory, machine.records())
            machine.settle()
            found += self.judge(memory, machine.records())
        self.assertGreater(found, 100)

    def judge(self, memory, records):
        order = [next(at for at, record in enumerate(records) if record is one) for one in stamped(records)]
        self.assertIs(is_order(memory, records, order), True)
        self.assertIs(have_pasts(memory, records, order), True)
        if len(order) > 8:
            return 0
        least = find_order(memory, records)
        self.assertIsNotNone(least)
        self.assertLessEqual(least, order)
        self.assertIs(is_order(memory, records, least), True)
        return 1


if __name__ == "__main__":
    unittest.main()
