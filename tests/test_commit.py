import unittest

from handshaker.attempt import run_try
from handshaker.commit import Commit, run_commit
from handshaker.stripes import Stripes
from tests import test_attempt
from tests.examples import run_example
from tests.test_attempt import ONE, ZERO_FAULT, all_of, load, put
from tests.test_stripes import all_of as all_of_stripes

EXAMPLE = """
>>> from handshaker.commit import run_commit
>>> memory = [4, 7]
>>> stripes = Stripes(4)
>>> one = run_commit(memory, run_try(memory, 0, code, [0], stripes), stripes)
>>> memory, one.stamp, one.failed, stripes.version(1), stripes.version(0)
([4, 5], 1, False, 1, 0)
"""
MEMORY = (10, 11, 12, 13, 14, 15)
WRITING = [put(4, 4), load(5), load(2), put(0, 0), put(1, 1)]
WRITING_STEPS = [
    ("lock", 0), ("lock", 1), ("tick",), ("check", 2), ("write", 0), ("write", 1), ("write", 4), ("wake",), ("stamp", 0),
    ("stamp", 1),
]


def newer(stripes, stripe):
    """Give a stripe a version above the clock at which a try may have begun."""
    stripes.lock(stripe, 9)
    stripes.stamp(stripe, 9, stripes.tick())


class CommitTest(unittest.TestCase):
    def begin(self, code, count=3, ticks=0, thread=0):
        """Memory, stripes, and the commit of a try, at whose start there were so many ticks."""
        memory, stripes = list(MEMORY), Stripes(count)
        for _ in range(ticks):
            stripes.tick()
        attempt = run_try(memory, thread, code, [0], stripes)
        return memory, stripes, Commit(attempt, stripes)

    def steps(self, commit, memory):
        """All steps that are left."""
        found = []
        while commit.next_step() is not None:
            step = commit.next_step()
            self.assertEqual(commit.next_step(), step)
            self.assertEqual(commit.step(memory), step)
            found.append(step)
        self.assertIsNone(commit.step(memory))
        self.assertIsNone(commit.next_step())
        return found

    def assert_all(self, commit, stamp, failed):
        self.assertEqual((commit.stamp, commit.failed), (stamp, failed))
        self.assertIs(commit.failed, failed)

    def test_example(self):
        run_example(self, EXAMPLE, run_example(self, test_attempt.EXAMPLE))

    def test_methods_stand_in_the_class(self):
        for name in ("next_step", "step"):
            self.assertIn(name, vars(Commit))

    def test_all_steps_in_order(self):
        memory, stripes, commit = self.begin(WRITING)
        self.assert_all(commit, None, False)
        self.assertEqual(self.steps(commit, memory), WRITING_STEPS)
        self.assertEqual(memory, [0, 1, 12, 13, 4, 15])
        self.assertEqual(all_of_stripes(stripes), (3, 1, [(1, None), (1, None), (0, None)]))
        self.assert_all(commit, 1, False)

    def test_each_step(self):
        memory, stripes, commit = self.begin(WRITING, ticks=4)
        before = all_of(commit._attempt)
        told = []
        for step in WRITING_STEPS:
            self.assertEqual(commit.next_step(), step)
            self.assertEqual(commit.step(memory), step)
            told.append((stripes.clock, [stripes.owner(0), stripes.owner(1)], [stripes.version(0), stripes.version(1)],
                         [memory[cell] for cell in (0, 1, 4)], commit.stamp))
        locked, open_again = [0, 0], [None, None]
        self.assertEqual(told, [
            (4, [0, None], [0, 0], [10, 11, 14], None), (4, locked, [0, 0], [10, 11, 14], None),
            (5, locked, [0, 0], [10, 11, 14], 5), (5, locked, [0, 0], [10, 11, 14], 5),
            (5, locked, [0, 0], [0, 11, 14], 5), (5, locked, [0, 0], [0, 1, 14], 5), (5, locked, [0, 0], [0, 1, 4], 5),
            (5, locked, [0, 0], [0, 1, 4], 5), (5, [None, 0], [5, 0], [0, 1, 4], 5), (5, open_again, [5, 5], [0, 1, 4], 5),
        ])
        self.assertEqual((stripes.version(2), stripes.owner(2)), (0, None))
        self.assertEqual(all_of(commit._attempt), before)

    def test_done_without_writes(self):
        memory, stripes, commit = self.begin([load(5), load(3), load(1)], count=4, ticks=2)
        self.assert_all(commit, 2, False)
        self.assertEqual(self.steps(commit, memory), [("check", 1), ("check", 3)])
        self.assert_all(commit, 2, False)
        self.assertEqual((memory, stripes.clock), (list(MEMORY), 2))

    def test_tries_that_are_not_done(self):
        for code in ([load(2), put(0, 1), ("undo",)], [load(2), put(0, 1), ("retry",)],
                     [load(2), put(0, 1), ("later", ZERO_FAULT)]):
            memory, stripes, commit = self.begin(code, ticks=3)
            self.assert_all(commit, 3, False)
            self.assertEqual(self.steps(commit, memory), [("check", 2)])
            self.assert_all(commit, 3, False)
            self.assertEqual(memory, list(MEMORY))
            self.assertEqual(all_of_stripes(stripes), (3, 3, [(0, None)] * 3))

    def test_no_steps_at_all(self):
        for code in ([], [("undo",)], [("retry",)], [("later", ZERO_FAULT)], [put(0, 1), ("undo",)], [("later", ONE)]):
            memory, stripes, commit = self.begin(code, ticks=1)
            self.assertIsNone(commit.next_step())
            self.assertIsNone(commit.step(memory))
            self.assert_all(commit, 1, False)
            self.assertEqual((memory, stripes.clock), (list(MEMORY), 1))

    def test_writes_without_reads(self):
        memory, stripes, commit = self.begin([put(1, 5)])
        self.assertEqual(self.steps(commit, memory), [("lock", 1), ("tick",), ("write", 1), ("wake",), ("stamp", 1)])
        self.assertEqual((memory[1], stripes.version(1)), (5, 1))

    def test_a_cell_that_is_read_and_written(self):
        memory, stripes, commit = self.begin([load(1), put(1, 5)])
        steps = [("lock", 1), ("tick",), ("check", 1), ("write", 1), ("wake",), ("stamp", 1)]
        self.assertEqual(self.steps(commit, memory), steps)
        self.assert_all(commit, 1, False)

    def test_the_first_lock_fails(self):
        for owner in (0, 1):
            memory, stripes, commit = self.begin(WRITING)
            stripes.lock(0, owner)
            self.assertEqual(self.steps(commit, memory), [("lock", 0)])
            self.assert_all(commit, None, True)
            self.assertEqual(memory, list(MEMORY))
            self.assertEqual(all_of_stripes(stripes), (3, 0, [(0, owner), (0, None), (0, None)]))

    def test_a_later_lock_fails(self):
        memory, stripes, commit = self.begin([put(cell, 1) for cell in range(5)], count=5, thread=3)
        stripes.lock(3, 1)
        self.assertEqual(commit.failed, False)
        for at in range(4):
            self.assertIs(commit.failed, False)
            self.assertEqual(commit.step(memory), ("lock", at))
        self.assert_all(commit, None, True)
        self.assertEqual([stripes.owner(at) for at in range(5)], [3, 3, 3, 1, None])
        self.assertEqual(commit.step(memory), ("free", 0))
        self.assertEqual([stripes.owner(at) for at in range(5)], [None, 3, 3, 1, None])
        self.assertEqual(self.steps(commit, memory), [("free", 1), ("free", 2)])
        self.assert_all(commit, None, True)
        self.assertEqual(all_of_stripes(stripes), (5, 0, [(0, None), (0, None), (0, None), (0, 1), (0, None)]))
        self.assertEqual(memory, list(MEMORY))

    def test_a_check_fails(self):
        for owner in (True, False):
            memory, stripes, commit = self.begin(WRITING)
            if owner:
                stripes.lock(2, 1)
            else:
                newer(stripes, 2)
            clock = stripes.clock
            self.assertEqual(self.steps(commit, memory), [*WRITING_STEPS[:4], ("free", 0), ("free", 1)])
            self.assert_all(commit, clock + 1, True)
            self.assertEqual(memory, list(MEMORY))
            rest = (0, 1) if owner else (1, None)
            self.assertEqual(all_of_stripes(stripes), (3, clock + 1, [(0, None), (0, None), rest]))

    def test_a_later_check_fails(self):
        memory, stripes, commit = self.begin([load(0), load(1), load(2), put(3, 1)], count=4)
        newer(stripes, 1)
        steps = [("lock", 3), ("tick",), ("check", 0), ("check", 1), ("free", 3)]
        self.assertEqual(self.steps(commit, memory), steps)
        self.assert_all(commit, 2, True)

    def test_a_check_of_an_own_stripe_fails(self):
        memory, stripes, commit = self.begin([load(1), put(1, 5)])
        newer(stripes, 1)
        self.assertEqual(self.steps(commit, memory), [("lock", 1), ("tick",), ("check", 1), ("free", 1)])
        self.assert_all(commit, 2, True)
        self.assertEqual((memory, stripes.version(1), stripes.owner(1)), (list(MEMORY), 1, None))

    def test_a_check_without_stripes_fails(self):
        for code in ([load(0), load(2)], [load(0), load(2), put(1, 1), ("undo",)], [load(0), load(2), ("retry",)]):
            memory, stripes, commit = self.begin(code, ticks=2)
            newer(stripes, 0)
            self.assertEqual(self.steps(commit, memory), [("check", 0)])
            self.assert_all(commit, 2, True)
            self.assertEqual(memory, list(MEMORY))

    def test_the_stripes_are_tested_at_the_start_of_the_try(self):
        memory, stripes, commit = self.begin([load(0)], ticks=1)
        stripes.lock(0, 9)
        stripes.stamp(0, 9, 1)
        self.assertEqual(self.steps(commit, memory), [("check", 0)])
        self.assert_all(commit, 1, False)

    def test_a_stripe_that_is_newer_is_written_to_if_it_was_not_read(self):
        memory, stripes, commit = self.begin([put(1, 5)])
        newer(stripes, 1)
        self.steps(commit, memory)
        self.assert_all(commit, 2, False)
        self.assertEqual((memory[1], stripes.version(1)), (5, 2))

    def test_run_commit(self):
        memory, stripes = list(MEMORY), Stripes(3)
        first = run_try(memory, 0, WRITING, [0], stripes)
        second = run_try(memory, 1, [load(4), put(2, 7)], [0], stripes)
        done = run_commit(memory, first, stripes)
        self.assert_all(done, 1, False)
        self.assertIsNone(done.next_step())
        failed = run_commit(memory, second, stripes)
        self.assert_all(failed, 2, True)
        self.assertIsNone(failed.next_step())
        self.assertEqual(memory, [0, 1, 12, 13, 4, 15])
        self.assertEqual(all_of_stripes(stripes), (3, 2, [(1, None), (1, None), (0, None)]))
        empty = run_commit(memory, run_try(memory, 0, [], [0], stripes), stripes)
        self.assert_all(empty, 2, False)

    def test_stamps_ascend(self):
        memory, stripes = list(MEMORY), Stripes(2)
        stamps = []
        for cell in (0, 1, 4, 0):
            stamps.append(run_commit(memory, run_try(memory, 0, [load(cell), put(cell, 1)], [0], stripes), stripes).stamp)
        self.assertEqual((stamps, stripes.clock), ([1, 2, 3, 4], 4))


if __name__ == "__main__":
    unittest.main()
