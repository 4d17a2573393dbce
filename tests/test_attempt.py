import copy
import random
import unittest

from handshaker.attempt import Try, run_try
from handshaker.flat import flat_block
from handshaker.stripes import Stripes
from handshaker.values import first_memory
from handshaker.walk import walk_block
from tests.examples import run_example
from tests.programs import Maker

EXAMPLE = """
>>> from handshaker.attempt import Try, run_try
>>> from handshaker.stripes import Stripes
>>> code = [("load", 0, 0, 1, ("number", 0)), ("put", 1, 1, ("number", 0), ("plus", ("slot", 0), ("number", 1)))]
>>> one = run_try([4, 7], 0, code, [0], Stripes(4))
>>> one.state, one.reads, one.log, one.frame
('done', {0: 4}, {1: 5}, [4])
>>> stripes = Stripes(4)
>>> stripes.lock(0, 1), run_try([4, 7], 0, code, [0], stripes).state
(True, 'lost')
"""
ZERO = ("number", 0)
ONE = ("number", 1)
ZERO_FAULT = ("over", ONE, ZERO)


def number(value):
    return ("number", value)


def load(cell, slot=0):
    return ("load", slot, cell, 1, ZERO)


def put(cell, value):
    return ("put", cell, 1, ZERO, number(value))


def all_of(attempt):
    """All that a try tells."""
    return copy.deepcopy((attempt.thread, attempt.start, attempt.state, attempt.reads, attempt.log, attempt.frame,
                          attempt.later, attempt.reason))


class Tries(unittest.TestCase):
    def steps(self, code, many, frame=(0, 0), memory=(4, 7, 9), thread=0, stripes=None):
        """A try that was given so many steps, behind which all have told "going"."""
        attempt = Try(thread, code, list(frame), stripes or Stripes(4))
        for _ in range(many):
            self.assertEqual(attempt.step(list(memory)), "going")
        return attempt


class ExampleTest(Tries):
    def test_example(self):
        run_example(self, EXAMPLE)

    def test_methods_stand_in_the_class(self):
        self.assertIn("step", vars(Try))


class StepTest(Tries):
    def test_at_first(self):
        stripes = Stripes(2)
        stripes.tick()
        stripes.tick()
        frame = [5, 6]
        attempt = Try(3, [("undo",)], frame, stripes)
        self.assertEqual(all_of(attempt), (3, 2, "going", {}, {}, [5, 6], [], None))
        self.assertIsNot(attempt.frame, frame)
        stripes.tick()
        self.assertEqual(attempt.start, 2)

    def test_the_end_of_the_code(self):
        attempt = self.steps([], 0, (1, 2))
        self.assertEqual(attempt.step([4]), "done")
        self.assertEqual(all_of(attempt), (0, 0, "done", {}, {}, [1, 2], [], None))
        attempt = self.steps([("set", 0, ONE)], 1)
        self.assertEqual((attempt.frame, attempt.step([4]), attempt.frame), ([1, 0], "done", [1, 0]))

    def test_an_instruction_each(self):
        rows = (
            (("set", 1, number(8)), {"frame": [3, 8]}),
            (("load", 1, 0, 3, number(2)), {"frame": [3, 9], "reads": {2: 9}}),
            (("put", 1, 2, ONE, number(8)), {"log": {2: 8}}),
            (("later", ("slot", 0)), {"later": [3]}),
            (("count", 1, number(20)), {"frame": [3, 20]}),
            (("jump", 1), {}), (("unless", ONE, 1), {}), (("try", 1), {}),
        )
        for instruction, changed in rows:
            attempt = self.steps([instruction], 1, (3, 0))
            for name, first in (("frame", [3, 0]), ("reads", {}), ("log", {}), ("later", []), ("state", "going")):
                self.assertEqual(getattr(attempt, name), changed.get(name, first), instruction)
            self.assertEqual(attempt.step([4, 7, 9]), "done")

    def test_jumps(self):
        code = [("jump", 2), ("undo",), ("unless", ZERO, 4), ("undo",), ("unless", ONE, 1), ("later", ONE)]
        attempt = self.steps(code, 4)
        self.assertEqual((attempt.later, attempt.step([])), ([1], "done"))

    def test_what_is_put_back(self):
        code = [put(0, 1), ("later", ONE), ("try", 7), put(0, 2), load(1), ("later", ZERO), ("retry",), put(2, 3)]
        attempt = self.steps(code, 6)
        self.assertEqual((attempt.log, attempt.frame, attempt.later), ({0: 2}, [7, 0], [1, 0]))
        self.assertEqual(attempt.step([4, 7, 9]), "going")
        self.assertEqual((attempt.log, attempt.frame, attempt.later, attempt.reads), ({0: 1}, [0, 0], [1], {1: 7}))
        self.assertEqual((attempt.step([4, 7, 9]), attempt.log), ("going", {0: 1, 2: 3}))
        self.assertEqual(attempt.step([4, 7, 9]), "done")

    def test_what_is_kept(self):
        attempt = self.steps([("try", 0), ("kept",), ("retry",)], 2)
        self.assertEqual(attempt.step([4]), "retry")

    def test_retry_and_undo(self):
        for word in ("retry", "undo"):
            attempt = self.steps([load(0), put(1, 2), (word,), load(2)], 2)
            self.assertEqual(attempt.step([4, 7, 9]), word)
            self.assertEqual((attempt.state, attempt.reads, attempt.reason), (word, {0: 4}, None))

    def test_faults(self):
        rows = (
            ("zero", ("set", 0, ZERO_FAULT)), ("index", ("load", 0, 1, 2, number(2))),
            ("index", ("load", 0, 1, 2, number(-1))), ("zero", ("load", 0, 1, 2, ZERO_FAULT)),
            ("index", ("put", 1, 2, number(2), ONE)), ("zero", ("put", 1, 2, number(2), ZERO_FAULT)),
            ("zero", ("unless", ZERO_FAULT, 1)), ("count", ("count", 0, number(21))), ("count", ("count", 0, number(-1))),
            ("zero", ("count", 0, ZERO_FAULT)), ("range", ("later", number(1000000001))),
        )
        for reason, instruction in rows:
            attempt = self.steps([load(0), instruction, load(1)], 1)
            self.assertEqual(attempt.step([4, 7, 9]), "fault")
            found = (attempt.state, attempt.reason, attempt.reads, attempt.log, attempt.later, attempt.frame)
            self.assertEqual(found, ("fault", reason, {0: 4}, {}, [], [4, 0]))

    def test_steps_of_a_try_that_is_not_going(self):
        stripes = Stripes(4)
        stripes.lock(2, 1)
        for state, code in (("done", [put(0, 1)]), ("retry", [("retry",)]), ("undo", [("undo",)]),
                            ("fault", [("later", ZERO_FAULT)]), ("lost", [load(2), load(0)])):
            attempt = run_try([4, 7, 9], 0, code, [0], stripes)
            before = all_of(attempt)
            for _ in range(3):
                self.assertEqual(attempt.step([5, 5, 5]), state)
                self.assertEqual(all_of(attempt), before)


class LoadTest(Tries):
    def test_a_cell_in_the_log(self):
        attempt = self.steps([put(0, 8), load(0)], 2)
        self.assertEqual((attempt.frame, attempt.reads), ([8, 0], {}))

    def test_a_cell_in_the_log_whose_stripe_is_not_open(self):
        stripes = Stripes(4)
        attempt = Try(0, [put(0, 8), load(0)], [0], stripes)
        stripes.lock(0, 1)
        self.assertEqual([attempt.step([4]), attempt.step([4]), attempt.step([4])], ["going", "going", "done"])
        self.assertEqual((attempt.frame, attempt.reads), ([8], {}))

    def test_a_cell_that_was_read_before(self):
        attempt = self.steps([load(0), load(0, 1)], 2)
        self.assertEqual((attempt.frame, attempt.reads), ([4, 4], {0: 4}))
        attempt = Try(0, [load(0), load(0, 1)], [0, 0], Stripes(1))
        attempt.step([4])
        attempt.step([6])
        self.assertEqual((attempt.frame, attempt.reads), ([4, 6], {0: 4}))

    def test_a_cell_that_was_read_before_and_is_no_longer_open(self):
        for lock_alone in (True, False):
            stripes = Stripes(4)
            attempt = Try(0, [load(0), load(0, 1)], [0, 0], stripes)
            self.assertEqual(attempt.step([4]), "going")
            stripes.lock(0, 1)
            if not lock_alone:
                stripes.stamp(0, 1, stripes.tick())
            self.assertEqual(attempt.step([4]), "lost")
            self.assertEqual((attempt.frame, attempt.reads), ([4, 0], {0: 4}))

    def test_locked_by_another_thread(self):
        stripes = Stripes(4)
        stripes.lock(2, 1)
        code = [load(1), load(2), load(0)]
        self.assertEqual(run_try([4, 7, 9], 0, code, [0], stripes).state, "lost")
        self.assertEqual(run_try([4, 7, 9], 0, code, [0], stripes).reads, {1: 7})

    def test_locked_for_another_cell_of_the_stripe(self):
        stripes = Stripes(2)
        stripes.lock(0, 1)
        self.assertEqual(run_try([4, 7, 9], 0, [load(2)], [0], stripes).state, "lost")
        self.assertEqual(run_try([4, 7, 9], 0, [load(1)], [0], stripes).state, "done")

    def test_locked_by_the_own_thread(self):
        for thread in (0, 2):
            stripes = Stripes(4)
            stripes.lock(2, thread)
            attempt = run_try([4, 7, 9], thread, [load(2)], [0], stripes)
            self.assertEqual((attempt.state, attempt.reads), ("done", {2: 9}))

    def test_newer_than_the_start(self):
        stripes = Stripes(4)
        early = Try(0, [load(0)], [0], stripes)
        stripes.lock(0, 1)
        stripes.stamp(0, 1, stripes.tick())
        late = Try(0, [load(0)], [0], stripes)
        self.assertEqual((early.start, late.start), (0, 1))
        self.assertEqual((early.step([4]), early.reads, early.frame), ("lost", {}, [0]))
        self.assertEqual((late.step([4]), late.reads), ("going", {0: 4}))
        stripes.lock(0, 0)
        self.assertEqual(Try(0, [load(0)], [0], Stripes(4)).step([4]), "going")

    def test_newer_than_the_start_and_locked_by_the_own_thread(self):
        stripes = Stripes(1)
        attempt = Try(0, [load(0)], [0], stripes)
        stripes.lock(0, 0)
        stripes.stamp(0, 0, stripes.tick())
        stripes.lock(0, 0)
        self.assertEqual(attempt.step([4]), "lost")

    def test_a_fault_of_the_index_comes_before_the_stripe(self):
        stripes = Stripes(1)
        stripes.lock(0, 1)
        attempt = run_try([4], 0, [("load", 0, 0, 1, ONE)], [0], stripes)
        self.assertEqual((attempt.state, attempt.reason), ("fault", "index"))


class RunTryTest(Tries):
    def test_run_try_leads_to_the_outcome_of_the_walk(self):
        for seed in range(300):
            choice = random.Random(seed)
            maker = Maker(choice)
            maker.cells = [(name, choice.randint(1, 4), 0) for name in ("a", "b", "c")]
            maker.variables = [("x", 0), ("y", 0)]
            maker.left = 20
            code, count = flat_block(maker.statements(True, 1, 0), maker.cells, ["x", "y"])
            memory = [choice.randint(-1, 3) for _ in first_memory(maker.cells)]
            frame = [choice.randint(-1, 3) for _ in range(count)]
            before = copy.deepcopy((memory, frame))
            stripes = Stripes(choice.randint(1, 5))
            for _ in range(choice.randint(0, 2)):
                stripes.tick()
            for stripe in range(stripes.count):
                stripes.lock(stripe, 1)
                if stripes.clock > 0 and choice.random() < 0.5:
                    stripes.stamp(stripe, 1, stripes.clock)
            attempt = run_try(memory, 1, code, frame, stripes)
            outcome = walk_block(code, frame, 2, memory)
            self.assertEqual((attempt.state, attempt.reads, attempt.reason),
                             (outcome.kind, outcome.reads, outcome.reason))
            if attempt.state == "done":
                self.assertEqual((attempt.log, attempt.frame[:2], attempt.later),
                                 (outcome.writes, outcome.finals, outcome.later))
            self.assertEqual((memory, frame), before)
            self.assertEqual((attempt.thread, attempt.start), (1, stripes.clock))

    def test_nothing_that_is_passed_changes(self):
        memory, frame, stripes = [4, 7, 9], [5, 6], Stripes(2)
        code = [put(0, 1), load(1), ("try", 4), ("retry",), ("later", ONE), ("set", 1, ZERO)]
        before = list(code)
        attempt = run_try(memory, 0, code, frame, stripes)
        self.assertEqual((memory, frame, code), ([4, 7, 9], [5, 6], before))
        self.assertEqual([stripes.clock, stripes.owner(0), stripes.owner(1)], [0, None, None])
        attempt.frame.append(1)
        self.assertEqual(frame, [5, 6])


if __name__ == "__main__":
    unittest.main()
