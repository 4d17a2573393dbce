import random
import unittest

from handshaker.errors import ImpossibleStep, TooLarge
from handshaker.explore import explore, reachable
from handshaker.reader import read_program
from handshaker.reduce import independent, reduced_ends, reduced_orders
from handshaker.world import World, run_order
from tests.test_explore import LATE, TWO, all_orders, drawn, pauses
from tests.test_machine_facts import PROGRAMS

TEXT = """
cell a = 0
cell b 2 = 0
thread one
  local x = 0
  {}
end
thread two
  local x = 0
  {}
end
"""
READ_A = "atomic\nset x = a\nend"
READ_B = "atomic\nset x = b(1)\nend"
PUT_A = "atomic\nput a = 0\nend"
PUT_B = "atomic\nput b(1) = 5\nend"


def source(one, two):
    return read_program(TEXT.format(one, two))


class IndependentTest(unittest.TestCase):
    def judge(self, one, two, *steps, pair=(0, 1)):
        program = source(one, two)
        state = run_order(program, list(steps))
        verdict = independent(program, state, *pair)
        self.assertIs(independent(program, state, *pair[::-1]), verdict)
        return verdict

    def test_what_blocks_read_and_write(self):
        for one, two, verdict in (
                (READ_A, READ_A, True), (READ_A, READ_B, True), (READ_A, PUT_A, False), (READ_A, PUT_B, True),
                (PUT_A, READ_B, True), (PUT_A, PUT_A, False), (PUT_A, PUT_B, True), (PUT_B, READ_B, False),
                ("atomic\nput b = 1\nend", PUT_B, True), ("atomic\nput b(1) = 1\nend", PUT_B, False)):
            self.assertIs(self.judge(one, two), verdict, (one, two))
            self.assertIs(self.judge(two, one), verdict, (one, two))

    def test_what_is_written_counts_and_not_whether_it_is_another_value(self):
        self.assertIs(self.judge(PUT_A, READ_A), False)

    def test_cells_of_a_way_that_was_put_back_are_read_but_not_written(self):
        body = "atomic\nchoose\nput b(1) = a\nretry\nor\nset x = 1\nend\nend"
        self.assertIs(self.judge(body, PUT_A), False)
        self.assertIs(self.judge(body, READ_B), True)
        self.assertIs(self.judge(body, PUT_B), True)

    def test_a_cell_that_was_written_first_is_not_read(self):
        # Both write it, so they depend on each other all the same; the index does not.
        self.assertIs(self.judge("atomic\nput a = 1\nset x = b(a)\nend", "atomic\nput b = 1\nend"), True)
        self.assertIs(self.judge("atomic\nput a = 1\nset x = b(a)\nend", PUT_B), False)

    def test_blocks_that_are_undone_or_faulty_read_and_do_not_write(self):
        for end in ("undo", "set x = 1 / 0"):
            body = f"atomic\nset x = a\nput b(1) = 1\n{end}\nend"
            self.assertIs(self.judge(body, PUT_A), False)
            self.assertIs(self.judge(body, PUT_B), True)
            self.assertIs(self.judge(body, READ_B), True)

    def test_pauses_and_limits_read_and_write_nothing(self):
        body = "atomic\nput a = 1\nput b = 2\nput b(1) = 3\nend"
        for other, steps in (("pause 1", ()), ("pause 0", (0,)), ("atomic within 2\nput a = 3\nlate\nend", ())):
            self.assertIs(self.judge(other, body, *steps), True)
        # When the limit has been evaluated, the block is next.
        self.assertIs(self.judge("atomic within 2\nput a = 3\nlate\nend", body, 0), False)

    def test_a_limit_that_is_used_up_reads(self):
        body = "atomic within 0\nput b(1) = 1\nif a = 0\nretry\nend\nlate\nend"
        self.assertIs(self.judge(body, PUT_A, 0), False)
        self.assertIs(self.judge(body, READ_A, 0), True)
        self.assertIs(self.judge(body, PUT_B, 0), True)
        self.assertIs(self.judge(body, PUT_A), True)

    def test_a_tick_is_independent_of_nothing(self):
        for pair in ((1, "tick"), ("tick", "tick")):
            self.assertIs(self.judge("pause 2", "pause 1", 0, pair=pair), False)

    def test_a_step_and_itself(self):
        for one in (READ_A, "pause 1"):
            for pair in ((0, 0), (1, 1)):
                self.assertIs(self.judge(one, one, pair=pair), False)

    def test_the_first_step_that_is_not_possible(self):
        program = source("atomic\nretry\nend", READ_A)
        state = World(program).first()
        for pair, step in (((0, 1), 0), ((1, 0), 0), ((0, 0), 0), (("tick", 0), "tick"), ((1, "tick"), "tick"),
                           ((0, "tick"), 0), ((2, 7), 2), ((1, -1), -1), ((1, 9), 9)):
            with self.assertRaises(ImpossibleStep) as caught:
                independent(program, state, *pair)
            self.assertEqual(caught.exception.step, step)
            self.assertIs(caught.exception.__class__, ImpossibleStep)

    def test_independent_steps_lead_to_the_same_state_in_both_orders(self):
        verdicts = []
        for program in [*drawn(60), *[read_program(text) for text in (LATE, *PROGRAMS)]]:
            world = World(program)
            states = states_of(program)
            for state in random.Random(1).sample(states, min(len(states), 12)):
                steps = world.possible(state)
                for first in steps:
                    for second in steps:
                        verdict = independent(program, state, first, second)
                        verdicts.append(verdict)
                        if verdict:
                            one, two = world.after(state, first), world.after(state, second)
                            self.assertIn(second, world.possible(one))
                            self.assertIn(first, world.possible(two))
                            self.assertEqual(world.after(one, second), world.after(two, first))
        self.assertGreater(verdicts.count(True), 200)
        self.assertGreater(verdicts.count(False), 200)


def states_of(program):
    """All states, or the first one alone if there are too many."""
    try:
        return reachable(program)
    except TooLarge:
        return [World(program).first()]


class OrdersTest(unittest.TestCase):
    def suffices(self, program, ends):
        """Check that the reduced orders suffice."""
        world = World(program)
        orders = reduced_orders(program)
        self.assertIsInstance(orders, list)
        found = []
        for order in orders:
            self.assertIsInstance(order, list)
            found.append(world.end_of(run_order(program, order)))
        self.assertNotIn(None, found)
        self.assertEqual(len({tuple(order) for order in orders}), len(orders))
        self.assertEqual(set(found), set(ends))
        self.assertEqual(reduced_ends(program), sorted(set(ends)))

    def test_they_suffice(self):
        many = 0
        for program in [*drawn(250), *[read_program(text) for text in (TWO, LATE, *PROGRAMS)]]:
            try:
                ends = [end for end, _ in explore(program)]
            except TooLarge:
                continue
            self.suffices(program, ends)
            many += len(ends) > 1
        self.assertGreater(many, 100)

    def test_a_program_that_has_ended_at_once(self):
        program = read_program("cell a = 3\nthread one\nsay 5\nend")
        self.assertEqual(reduced_orders(program), [[]])
        self.assertEqual(reduced_ends(program), [((3,), (("ended",),), ((5,),))])

    def test_ends_ascend(self):
        program = read_program("cell a = 5\n" + "".join(
            f"thread {name}\natomic\nput a = {value}\nend\nend\n" for name, value in (("one", 3), ("two", -7), ("three", 0))))
        self.assertEqual([end[0] for end in reduced_ends(program)], [(-7,), (0,), (3,)])

    def test_programs_with_few_orders_have_reduced_ones(self):
        few = 0
        for program in drawn(120):
            orders = all_orders(program, 500)
            if orders is not None:
                few += 1
                self.suffices(program, [end for end, _ in orders])
        self.assertGreater(few, 60)

    def test_few_orders_with_many_states(self):
        # A single order, too long for exploring.
        program = pauses(1000, 1000, 1000, 1000)
        with self.assertRaises(TooLarge):
            explore(program)
        orders = reduced_orders(program)
        self.assertEqual([len(order) for order in orders], [4008])
        self.assertEqual(reduced_ends(program), [((), (("ended",),), ((),))])

    def test_many_orders_with_few_states(self):
        # There are 34650 orders, none of whose steps are independent, and 125 places of the threads.
        body = "atomic\nput a = a * 2 rest 7 + {}\nend\n" * 4
        text = "cell a = 0\n" + "".join(
            f"thread {name}\n{body.format(value, value, value, value)}end\n" for value, name in enumerate(("one", "two", "three")))
        program = read_program(text)
        self.suffices(program, [end for end, _ in explore(program)])

    def test_independent_threads(self):
        text = "".join(f"cell {name} = 0\n" for name in "abcdef")
        for name in "abcdef":
            text += f"thread {name}\natomic\nput {name} = {name} + 1\nend\natomic\nput {name} = {name} * 2\nend\nend\n"
        ended = (("ended",),) * 6
        self.assertEqual(reduced_ends(read_program(text)), [((2,) * 6, ended, ((),) * 6)])

    def test_independent_threads_with_more_states_than_can_be_explored(self):
        text = "cell a = 0\ncell b = 0\ncell c = 0\n"
        for name in "abc":
            text += f"thread {name}\nrepeat 15\natomic\nput {name} = {name} + 1\nend\nend\nend\n"
        program = read_program(text)
        with self.assertRaises(TooLarge):
            explore(program)
        self.assertEqual(reduced_ends(program), [((15, 15, 15), (("ended",),) * 3, ((),) * 3)])
        self.assertEqual([len(order) for order in reduced_orders(program)], [45])

    def test_very_many_orders_of_a_program_that_can_be_explored(self):
        text = "cell a = 0\n"
        for name in "abc":
            text += f"thread {name}\nrepeat 12\natomic\nput a = 1\nend\nend\nend\n"
        program = read_program(text)
        self.assertEqual(len(reachable(program)), 2197)
        self.suffices(program, [end for end, _ in explore(program)])

    def test_what_is_too_large(self):
        text = "cell a = 0\n" + "".join(f"thread {name}\nrepeat 20\natomic\nput a = a + 1\nend\npause 3\nend\nend\n"
                                         for name in "abcdef")
        for call in (reduced_orders, reduced_ends):
            with self.assertRaises(TooLarge) as caught:
                call(read_program(text))
            self.assertEqual(caught.exception.limit, "orders")
            self.assertIs(caught.exception.__class__, TooLarge)


if __name__ == "__main__":
    unittest.main()
