import random
import unittest

from handshaker.errors import HandshakerError, ImpossibleStep
from handshaker.flat import flat_thread
from handshaker.plain import run_block
from handshaker.reader import read_program
from handshaker.syntax import Program, Thread
from handshaker.world import World, run_order
from tests.sources import SourceWorld
from tests.test_machine_facts import PROGRAMS, program_of

CELLS = "cell a = 4\ncell b 3 = 7\n"
WAIT = "atomic\nif a = 4\nretry\nend\nset x = a\nend\nsay x"


def source(*bodies):
    """A program with CELLS, and threads with the locals x and y and these lines."""
    text = CELLS
    for name, body in zip(("ann", "bob", "cid"), bodies):
        text += f"thread {name}\nlocal x = 2\nlocal y = -1\n{body}\nend\n"
    return read_program(text)


class Worlds(unittest.TestCase):
    def world(self, *bodies):
        self.program = source(*bodies)
        self.here = World(self.program)
        return self.here.first()

    def go(self, state, *steps):
        for step in steps:
            self.assertIn(step, self.here.possible(state))
            state = self.here.after(state, step)
        return state

    def look(self, state, number=0):
        """The locals, the ticks, what is said, and the mode of a thread."""
        _, frame, ticks, said, mode = state[1][number]
        return frame[:2], ticks, said, mode

    def assert_impossible(self, state, *steps):
        before = hash(state)
        for step in steps:
            self.assertNotIn(step, self.here.possible(state))
            with self.assertRaises(ImpossibleStep) as caught:
                self.here.after(state, step)
            self.assertIs(caught.exception.__class__, ImpossibleStep)
            self.assertEqual(caught.exception.step, step)
        self.assertEqual(hash(state), before)


class InterfaceTest(Worlds):
    def test_methods_stand_in_the_class(self):
        for name in ("first", "possible", "after", "end_of", "outcome"):
            self.assertIn(name, vars(World))

    def test_a_state_is_made_of_tuples(self):
        state = self.world("pause 1", "repeat 2\nsay x\nend\natomic\nput a = 1\nend")
        self.assertIsInstance(state, tuple)
        memory, threads = state
        self.assertEqual(memory, (4, 7, 7, 7))
        self.assertIsInstance(threads, tuple)
        for thread in threads:
            self.assertIsInstance(thread, tuple)
            at, frame, ticks, said, mode = thread
            self.assertEqual([part.__class__ for part in thread], [int, tuple, int, tuple, str])
        self.assertEqual(hash(state), hash(self.here.first()))

    def test_the_same_calls_give_the_same(self):
        state = self.world(WAIT, "atomic\nput a = 5\nend\npause 1")
        again = World(self.program)
        self.assertEqual(again.first(), state)
        for step in (1, 0, 1, "tick", 1):
            self.assertEqual(again.possible(state), self.here.possible(state))
            self.assertIsInstance(self.here.possible(state), list)
            behind = self.here.after(state, step)
            self.assertEqual(again.after(state, step), behind)
            state = behind
        self.assertEqual(again.end_of(state), self.here.end_of(state))

    def test_a_program_that_changes_later_changes_nothing(self):
        program = source("say 1\natomic\nput a = 2\nend")
        here = World(program)
        state = here.first()
        program.cells.clear()
        program.threads.clear()
        self.assertEqual(here.first(), state)
        self.assertEqual(here.end_of(here.after(state, 0)), ((2, 7, 7, 7), (("ended",),), ((1,),)))


class FirstTest(Worlds):
    def test_every_thread_has_gone_on(self):
        state = self.world("set x = x + 5\nsay x\nif x = 7\nsay y\nend\nrepeat 3\nset y = y * 2\nend\npause 1\nsay 99",
                           "atomic\nput a = 1\nend")
        self.assertEqual(self.look(state), ((7, -8), -1, (7, -1), "on"))
        self.assertEqual(self.look(state, 1), ((2, -1), -1, (), "on"))
        self.assertEqual(self.here.possible(state), [0, 1])

    def test_threads_without_a_block_or_pause_have_ended(self):
        state = self.world("", "say x\nset x = 9", "repeat 20\nrepeat 20\nset x = x + 1\nend\nend")
        self.assertEqual([self.look(state, number) for number in range(3)],
                         [((2, -1), -1, (), "ended"), ((9, -1), -1, (2,), "ended"), ((402, -1), -1, (), "ended")])
        self.assertEqual(self.here.possible(state), [])
        ends = (("ended",),) * 3
        self.assertEqual(self.here.end_of(state), ((4, 7, 7, 7), ends, ((), (2,), ())))
        for number, thread in enumerate(self.program.threads):
            # The number is then that behind the last instruction.
            self.assertEqual(state[1][number][0], len(flat_thread(thread, self.program.cells)[0]))
            self.assertIsNone(self.here.outcome(state, number))

    def test_faults_ahead_of_the_first_block(self):
        for row, reason in (("say 1 / 0", "zero"), ("set x = 1000000000 + 1", "range"), ("repeat 21\nend", "count"),
                            ("repeat -1\nend", "count"), ("if 1 rest 0\nend", "zero")):
            state = self.world(f"say 8\nset y = 3\n{row}\nset y = 4\nsay 9\npause 1", "pause 1")
            self.assertEqual(self.look(state), ((2, 3), -1, (8,), reason))
            self.assertEqual(self.here.possible(state), [1])
            self.assert_impossible(state, 0)
            code, _ = flat_thread(self.program.threads[0], self.program.cells)
            self.assertLess(state[1][0][0], code.index(("set", 1, ("number", 4))))

    def test_other_slots_are_0(self):
        for body in ("pause 1\nrepeat 2\nrepeat 3\nsay 1\nend\nend", "atomic\nput a = b(a) + b(x)\nend"):
            state = self.world(body)
            _, count = flat_thread(self.program.threads[0], self.program.cells)
            self.assertGreater(count, 2)
            self.assertEqual(state[1][0][1], (2, -1) + (0,) * (count - 2))

    def test_a_program_without_cells(self):
        program = Program([], [Thread("ann", [], [("say", ("number", 3))])])
        self.assertEqual(World(program).end_of(World(program).first()), ((), (("ended",),), ((3,),)))


class PauseTest(Worlds):
    def test_a_pause(self):
        state = self.world("say 1\npause x\nsay 2")
        self.assertEqual(self.look(state), ((2, -1), -1, (1,), "on"))
        self.assertEqual(self.here.possible(state), [0])
        self.assert_impossible(state, "tick")
        for ticks in (2, 1):
            state = self.go(state, 0 if ticks == 2 else "tick")
            self.assertEqual(self.look(state), ((2, -1), ticks, (1,), "on"))
            self.assertEqual(self.here.possible(state), ["tick"])
            self.assert_impossible(state, 0)
            self.assertIsNone(self.here.end_of(state))
        state = self.go(state, "tick")
        self.assertEqual(self.look(state), ((2, -1), 0, (1,), "on"))
        self.assertEqual(self.here.possible(state), [0])
        self.assert_impossible(state, "tick")
        state = self.go(state, 0)
        self.assertEqual(self.look(state), ((2, -1), -1, (1, 2), "ended"))
        self.assert_impossible(state, 0, "tick")

    def test_counts_of_ticks(self):
        for row, ticks, mode in (("pause 0", 0, "on"), ("pause 1000", 1000, "on"), ("pause 1001", -1, "count"),
                                 ("pause -1", -1, "count"), ("pause 1 / 0", -1, "zero"),
                                 ("pause 1000000000 * 2", -1, "range")):
            state = self.world("say 1\n" + row)
            self.assertEqual(self.here.possible(state), [0])
            at = state[1][0][0]
            state = self.go(state, 0)
            self.assertEqual(self.look(state), ((2, -1), ticks, (1,), mode))
            self.assertEqual(state[1][0][0], at)

    def test_a_fault_behind_a_pause(self):
        state = self.world("pause 0\nsay 1\nset x = 5\nsay 1 / 0\nsay 2", "pause 3")
        state = self.go(state, 1, 0, 0)
        self.assertEqual(self.look(state), ((5, -1), -1, (1,), "zero"))
        self.assertEqual(self.here.possible(state), ["tick"])
        state = self.go(state, "tick", "tick", "tick", 1)
        self.assertEqual(self.here.end_of(state)[1], (("broken", "zero"), ("ended",)))

    def test_one_pause_behind_another(self):
        state = self.go(self.world("repeat 2\npause 1\nend"), 0, "tick", 0)
        self.assertEqual(self.look(state)[1], -1)
        state = self.go(state, 0, "tick", 0)
        self.assertEqual(self.look(state), ((2, -1), -1, (), "ended"))


class TickTest(Worlds):
    def test_a_tick_takes_one_from_each_that_has_some(self):
        state = self.go(self.world("pause 3", "atomic within 1\nretry\nlate\nend", "pause 0"), 0, 1, 2)
        self.assertEqual([self.look(state, number)[1] for number in range(3)], [3, 1, 0])
        self.assertEqual(self.here.possible(state), [2, "tick"])
        state = self.go(state, "tick")
        self.assertEqual([self.look(state, number)[1] for number in range(3)], [2, 0, 0])
        self.assertEqual(self.here.possible(state), [1, 2, "tick"])
        state = self.go(state, "tick", 1)
        self.assertEqual([self.look(state, number)[1] for number in range(3)], [1, -1, 0])

    def test_threads_that_are_broken_keep_their_ticks(self):
        state = self.go(self.world("atomic within 5\nput a = 1 / 0\nlate\nend", "pause 2"), 0, 1, 0)
        self.assertEqual(self.look(state), ((2, -1), 5, (), "zero"))
        state = self.go(state, "tick", "tick")
        self.assertEqual([self.look(state, number)[1] for number in range(2)], [5, 0])
        self.assertEqual(self.here.possible(state), [1])
        self.assert_impossible(state, "tick", 0)

    def test_it_changes_nothing_else(self):
        state = self.go(self.world("say 4\npause 3", WAIT), 0)
        behind = self.here.after(state, "tick")
        self.assertEqual(behind[0], state[0])
        self.assertEqual(behind[1][1], state[1][1])
        self.assertEqual(behind[1][0], (*state[1][0][:2], 2, *state[1][0][3:]))


class BlockTest(Worlds):
    def test_a_block_that_is_done(self):
        state = self.world("say 1\natomic\nset x = b(1) + a\nput b(2) = x\nlater y\nlater a\nend\nsay x\nset y = 8")
        self.assertEqual(self.look(state), ((2, -1), -1, (1,), "on"))
        behind = self.go(state, 0)
        self.assertEqual(behind[0], (4, 7, 7, 11))
        self.assertEqual(self.look(behind), ((11, 8), -1, (1, -1, 4, 11), "ended"))
        self.assertEqual(state[0], (4, 7, 7, 7))

    def test_a_block_that_is_undone(self):
        state = self.go(self.world("atomic\nset x = 50\nput a = 1\nlater 2\nundo\nend\nsay x\npause 1"), 0)
        self.assertEqual(state[0], (4, 7, 7, 7))
        self.assertEqual(self.look(state), ((2, -1), -1, (2,), "on"))

    def test_a_block_that_is_undone_within_its_limit(self):
        state = self.go(self.world("atomic within 3\nput a = 1\nundo\nlate\nsay 9\nend\nsay 1"), 0, "tick", 0)
        self.assertEqual(state[0], (4, 7, 7, 7))
        self.assertEqual(self.look(state), ((2, -1), -1, (1,), "ended"))

    def test_a_block_with_a_fault(self):
        for row, reason in (("set x = 1 / 0", "zero"), ("put b(3) = 1", "index"), ("set x = b(-1)", "index"),
                            ("repeat 30\nend", "count"), ("later 1000000000 + 1", "range")):
            state = self.world(f"say 1\natomic\nput a = 5\nset y = 6\nlater 7\n{row}\nend\nsay 2")
            at = state[1][0][0]
            behind = self.go(state, 0)
            self.assertEqual(behind[0], state[0])
            self.assertEqual(self.look(behind), ((2, -1), -1, (1,), reason))
            self.assertEqual(behind[1][0][0], at)
            self.assertEqual(self.here.possible(behind), [])
            self.assertEqual(self.here.end_of(behind)[1:], ((("broken", reason),), ((1,),)))

    def test_a_block_that_retries_waits(self):
        state = self.world(WAIT, "atomic\nput a = 9\nend")
        self.assertEqual(self.here.possible(state), [1])
        self.assert_impossible(state, 0, "tick")
        self.assertIsNone(self.here.end_of(state))
        state = self.go(state, 1)
        self.assertEqual(self.here.possible(state), [0])
        state = self.go(state, 0)
        self.assertEqual(self.look(state), ((9, -1), -1, (9,), "ended"))

    def test_a_fault_behind_a_block(self):
        state = self.go(self.world("atomic\nput a = 0\nset x = a\nend\nset y = x\nsay 1 / y\nsay 3"), 0)
        self.assertEqual(state[0], (0, 7, 7, 7))
        self.assertEqual(self.look(state), ((0, 0), -1, (), "zero"))

    def test_other_slots_stay(self):
        state = self.world("repeat 2\natomic\nset x = a + b(a - 4) + b(1)\nrepeat 3\nput a = a + 0\nend\nend\nend\nsay x")
        before = state[1][0][1]
        behind = self.go(state, 0)[1][0][1]
        changed = [at for at in range(2, len(before)) if before[at] != behind[at]]
        # That is the number of rounds that the repeat has left.
        self.assertEqual(len(changed), 1)

    def test_a_way_out(self):
        body = "atomic\nchoose\nput a = 1\nif b = 7\nretry\nend\nor\nput b(1) = a\nend\nend"
        state = self.go(self.world(body), 0)
        self.assertEqual(state[0], (4, 7, 4, 7))


class LimitTest(Worlds):
    BODY = "atomic within 2\nif a = 4\nretry\nend\nset x = a\nlate\nsay 77\nset y = 5\nend\nsay x"

    def test_the_limit_is_evaluated_first(self):
        state = self.world(self.BODY, "atomic\nput a = 6\nend")
        self.assertEqual(self.here.possible(state), [0, 1])
        state = self.go(state, 0)
        self.assertEqual(self.look(state), ((2, -1), 2, (), "on"))
        self.assertEqual(self.here.possible(state), [1, "tick"])
        self.assert_impossible(state, 0)

    def test_it_does_not_retry_any_more(self):
        for ticks in range(3):
            state = self.go(self.world(self.BODY, "atomic\nput a = 6\nend"), 0, *["tick"] * ticks, 1)
            self.assertEqual(self.look(state)[1], 2 - ticks)
            state = self.go(state, 0)
            self.assertEqual(self.look(state), ((6, -1), -1, (6,), "ended"))

    def test_it_is_used_up(self):
        state = self.go(self.world(self.BODY, "atomic\nput a = 6\nend"), 0, "tick", "tick")
        self.assertEqual(self.here.possible(state), [0, 1])
        state = self.go(state, 0)
        self.assertEqual(self.look(state), ((2, 5), -1, (77, 2), "ended"))
        self.assertEqual(self.here.possible(state), [1])

    def test_without_a_late_list(self):
        state = self.go(self.world("atomic within 0\nset x = 9\nretry\nend\nsay x"), 0)
        self.assertEqual(self.look(state)[1], 0)
        self.assertEqual(self.here.possible(state), [0])
        self.assertEqual(self.look(self.go(state, 0)), ((2, -1), -1, (2,), "ended"))

    def test_limits_out_of_range(self):
        for limit, reason in (("-1", "count"), ("1001", "count"), ("1 / 0", "zero"), ("1000000000 * 9", "range")):
            state = self.world(f"atomic within {limit}\nput a = 1\nlate\nsay 1\nend\nsay 2")
            self.assertEqual(self.here.possible(state), [0])
            state = self.go(state, 0)
            self.assertEqual(self.look(state), ((2, -1), -1, (), reason))
            self.assertEqual(state[0], (4, 7, 7, 7))

    def test_a_limit_of_a_thousand(self):
        state = self.go(self.world("atomic within x * 500\nput a = 1\nend"), 0)
        self.assertEqual(self.look(state)[1], 1000)
        self.assertEqual(self.look(self.go(state, 0))[1], -1)

    def test_it_is_evaluated_once_more_in_the_next_round(self):
        body = "repeat 2\natomic within x\nset x = 1\nend\nend"
        state = self.go(self.world(body), 0)
        self.assertEqual(self.look(state)[1], 2)
        state = self.go(state, 0)
        self.assertEqual(self.look(state)[1], -1)
        state = self.go(state, 0)
        self.assertEqual(self.look(state)[1], 1)


class PossibleTest(Worlds):
    def test_threads_ascend_and_the_tick_is_last(self):
        state = self.world("pause 1", "atomic\nput a = 1\nend", "pause 2")
        self.assertEqual(self.here.possible(state), [0, 1, 2])
        state = self.go(state, 2)
        self.assertEqual(self.here.possible(state), [0, 1, "tick"])
        state = self.go(state, "tick", "tick")
        self.assertEqual(self.here.possible(state), [0, 1, 2])

    def test_steps_that_there_are_not(self):
        state = self.go(self.world("pause 1", "pause 2"), 0, 1)
        self.assert_impossible(state, 2, -1, 99, -2, "t", "0", "")
        self.assert_impossible(self.here.first(), -1, 2)


class EndTest(Worlds):
    def test_every_kind_of_end(self):
        state = self.world("atomic\nput a = 5\nend\nsay 3\nsay 4", "atomic\nretry\nend", "say 8\natomic\nput b(9) = 0\nend")
        self.assertIsNone(self.here.end_of(state))
        state = self.go(state, 2)
        self.assertIsNone(self.here.end_of(state))
        state = self.go(state, 0)
        expected = ((5, 7, 7, 7), (("ended",), ("asleep",), ("broken", "index")), ((3, 4), (), (8,)))
        self.assertEqual(self.here.end_of(state), expected)
        self.assertEqual(self.here.possible(state), [])

    def test_a_thread_with_a_limit_never_sleeps_in_the_end(self):
        state = self.world("atomic within 1\nretry\nend", "atomic\nretry\nend")
        for step in (0, "tick", 0):
            self.assertIsNone(self.here.end_of(state))
            state = self.go(state, step)
        self.assertEqual(self.here.end_of(state)[1], (("ended",), ("asleep",)))


class OutcomeTest(Worlds):
    def test_the_block_at_which_a_thread_is(self):
        state = self.world("atomic\nset x = a + b(1)\nput b(2) = x\nlater 3\nend", WAIT, "pause 1")
        one, two = self.here.outcome(state, 0), self.here.outcome(state, 1)
        self.assertEqual((one.kind, one.reads, one.writes, one.finals, one.later),
                         ("done", {0: 4, 2: 7}, {3: 11}, [11, -1], [3]))
        self.assertEqual((two.kind, two.reads, two.writes, two.finals), ("retry", {0: 4}, {}, [2, -1]))
        self.assertIsNone(self.here.outcome(state, 2))

    def test_what_the_locals_and_the_memory_are_now(self):
        state = self.world("set x = 6\natomic\nset x = x + a\nend\nsay 1\natomic\nset x = x + a\nend",
                           "atomic\nput a = 100\nend")
        self.assertEqual(self.here.outcome(state, 0).finals, [10, -1])
        state = self.go(state, 1)
        self.assertEqual(self.here.outcome(state, 0).finals, [106, -1])
        self.assertIsNone(self.here.outcome(state, 1))
        state = self.go(state, 0)
        self.assertEqual(self.here.outcome(state, 0).finals, [206, -1])

    def test_faults_and_limits(self):
        state = self.world("atomic\nset x = a\nset y = 1 / 0\nend", "atomic within 3\nput a = 1\nundo\nend")
        one, two = self.here.outcome(state, 0), self.here.outcome(state, 1)
        self.assertEqual((one.kind, one.reason, one.reads, one.finals), ("fault", "zero", {0: 4}, [2, -1]))
        self.assertEqual((two.kind, two.writes), ("undo", {}))
        state = self.go(state, 1, "tick")
        self.assertEqual(self.here.outcome(state, 1).kind, "undo")
        # A block that broke its thread is still the one at which it is.
        self.assertEqual(self.here.outcome(self.go(state, 0), 0).kind, "fault")

    def test_it_changes_nothing(self):
        state = self.world("atomic\nput a = 1\nset x = 9\nend")
        before = self.here.first()
        outcome = self.here.outcome(state, 0)
        outcome.writes[0] = 77
        outcome.finals.append(3)
        self.assertEqual((state, self.here.outcome(state, 0).writes), (before, {0: 1}))
        self.assertEqual(self.go(state, 0)[0], (1, 7, 7, 7))


class RunOrderTest(Worlds):
    def test_states_behind_orders(self):
        state = self.world(LimitTest.BODY, "atomic\nput a = 6\nend")
        order = []
        for step in (0, "tick", "tick", 1, 0):
            self.assertEqual(run_order(self.program, order), state)
            state = self.go(state, step)
            order.append(step)
        self.assertEqual(run_order(self.program, order), state)
        self.assertEqual(order, [0, "tick", "tick", 1, 0])

    def test_the_first_step_that_is_not_possible(self):
        program = source("pause 1", "atomic\nput a = 6\nend")
        for order, step in ((["tick"], "tick"), ([1, 1, 0], 1), ([0, 0, "tick"], 0), ([0, "tick", "tick", 7], "tick"),
                            ([0, 2, 9], 2), ([-1], -1), ([0, 1, "tick", 0, 0], 0)):
            with self.assertRaises(ImpossibleStep) as caught:
                run_order(program, order)
            self.assertEqual(caught.exception.step, step)
            self.assertIsInstance(caught.exception, HandshakerError)


class FactsTest(unittest.TestCase):
    def test_drawn_programs_go_as_their_statements_tell(self):
        modes = {}
        for seed in range(250):
            choice = random.Random(seed)
            program = read_program(PROGRAMS[seed % len(PROGRAMS)]) if seed % 5 == 0 else program_of(seed, choice)
            here, there = World(program), SourceWorld(program)
            state, other = here.first(), there.first
            for _ in range(60):
                self.compare(here, state, there, other)
                steps = here.possible(state)
                if not steps:
                    break
                step = choice.choice(steps)
                state, other = here.after(state, step), there.after(other, step)
            for thread in state[1]:
                modes[thread[4]] = modes.get(thread[4], 0) + 1
        self.assertGreater(min(modes[mode] for mode in ("on", "ended", "zero", "range", "index", "count")), 5)

    def compare(self, here, state, there, other):
        self.assertEqual(here.possible(state), [step for step, _ in there.moves(other)])
        self.assertEqual(state[0], other[0])
        self.assertEqual(here.end_of(state), there.end_of(other) if not there.moves(other) else None)
        for number, (at, frame, ticks, said, mode) in enumerate(state[1]):
            thread = other[1][number]
            self.assertEqual((said, mode), (there.said(number, thread), there.mode(number, thread)))
            place = there.place(number, thread[0])
            if mode == "on":
                self.assertEqual(ticks, thread[1])
                self.assertEqual(frame[:len(place.variables)], tuple(place.variables.values()))
                outcome = here.outcome(state, number)
                if place.word == "pause":
                    self.assertIsNone(outcome)
                else:
                    variables = list(place.variables.items())
                    expected = run_block(place.what[2], there.program.cells, variables, list(state[0]))
                    self.assertEqual(vars(outcome), vars(expected))


if __name__ == "__main__":
    unittest.main()
