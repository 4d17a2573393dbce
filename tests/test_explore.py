import random
import unittest

from handshaker.errors import TooLarge
from handshaker.explore import explore, reachable
from handshaker.machine import Machine
from handshaker.reader import read_program
from handshaker.world import World, run_order
from tests.programs import Rival
from tests.sources import SourceWorld
from tests.test_machine_facts import PROGRAMS, program_of, random_picks

TWO = "cell a = 0\nthread one\natomic\nput a = a + 1\nend\nend\nthread two\natomic\nput a = a * 2\nend\nend"
# A thread that waits for its limit, and one that comes to its help.
LATE = ("cell a = 0\nthread one\nlocal x = 0\natomic within 1\nif a = 0\nretry\nend\nset x = a\nlate\nsay 9\nend\nsay x\nend\n"
        "thread two\natomic\nput a = 5\nend\nend")


def pauses(*ticks):
    """A program of a single thread with these pauses, which has the sum of them and 2 more for each, and 1 more, states."""
    return read_program("thread one\n" + "".join(f"pause {one}\n" for one in ticks) + "end")


class ExploreTest(unittest.TestCase):
    def test_both_ends(self):
        ends = (("ended",), ("ended",))
        self.assertEqual(explore(read_program(TWO)), [(((2,), ends, ((), ())), [0, 1]), (((1,), ends, ((), ())), [1, 0])])

    def test_a_program_that_has_ended_at_once(self):
        found = explore(read_program("cell a = 3\nthread one\nsay 5\nend\nthread two\nend"))
        self.assertEqual(found, [(((3,), (("ended",), ("ended",)), ((5,), ())), [])])

    def test_ticks_come_behind_all_threads(self):
        ends = (("ended",), ("ended",))
        self.assertEqual(explore(read_program(LATE)), [
            (((5,), ends, ((5,), ())), [0, 1, 0]),
            (((5,), ends, ((9, 0), ())), [0, "tick", 0, 1]),
        ])

    def test_the_kinds_of_what_is_returned(self):
        found = explore(read_program(LATE))
        self.assertIsInstance(found, list)
        for pair in found:
            self.assertEqual([part.__class__ for part in pair], [tuple, list])
            self.assertIs(pair.__class__, tuple)
            self.assertEqual([part.__class__ for part in pair[0]], [tuple] * 3)

    def test_a_shortest_order_is_found_and_among_those_the_least(self):
        # 1 then 0 leads to the end in fewer steps than the least order, in which 0 must wait out its pause.
        text = "cell a = 0\nthread one\nlocal x = 0\natomic\nset x = a\nend\nif x = 0\npause 1\nend\nend\n"
        found = explore(read_program(text + "thread two\natomic\nput a = 1\nend\nend"))
        self.assertEqual([order for _, order in found], [[1, 0]])

    def test_several_states_with_the_same_end(self):
        # What x is does not show in the end.
        text = "cell a = 0\nthread one\nlocal x = 0\natomic\nset x = a\nend\nend\nthread two\natomic\nput a = 1\nend\nend"
        program = read_program(text)
        self.assertEqual([order for _, order in explore(program)], [[0, 1]])
        self.assertEqual(len(reachable(program)), 5)

    def test_sleepers_and_faults(self):
        text = ("cell a = 1\nthread one\natomic\nif a = 0\nretry\nend\nput a = 0\nend\nend\n"
                "thread two\natomic\nif a = 0\nretry\nend\nput a = 0\nend\nsay 1 / 0\nend")
        self.assertEqual(explore(read_program(text)), [
            (((0,), (("ended",), ("asleep",)), ((), ())), [0]),
            (((0,), (("asleep",), ("broken", "zero")), ((), ())), [1]),
        ])

    def test_drawn_programs_have_the_ends_that_their_statements_tell(self):
        many = 0
        for program in drawn(160):
            expected = SourceWorld(program).ends(1500)
            if expected is not None:
                self.assertEqual(explore(program), expected)
                many += len(expected) > 1
        for text in PROGRAMS:
            self.assertEqual(explore(read_program(text)), SourceWorld(read_program(text)).ends(2500))
        self.assertGreater(many, 40)

    def test_all_orders_of_small_programs(self):
        programs = [read_program(text) for text in (TWO, LATE, *PROGRAMS)]
        seen = 0
        for program in [*programs, *drawn(100)]:
            orders = all_orders(program, 300)
            if orders is not None:
                seen += len(orders) > 1
                self.assertEqual(explore(program), least_of_shortest(orders))
        self.assertGreater(seen, 50)

    def test_the_orders_lead_to_their_ends(self):
        for program in drawn(100):
            world = World(program)
            try:
                found = explore(program)
            except TooLarge:
                continue
            for end, order in found:
                self.assertEqual(world.end_of(run_order(program, order)), end)
            self.assertEqual(len({end for end, _ in found}), len(found))
            keys = [key_of(order) for _, order in found]
            self.assertEqual(keys, sorted(keys))

    def test_nothing_changes_and_the_same_comes_again(self):
        program = read_program(LATE)
        first = explore(program), reachable(program)
        for pair in explore(program):
            pair[1].append("tick")
        reachable(program).clear()
        self.assertEqual((explore(program), reachable(program)), first)


def drawn(many):
    """Drawn programs, in most of which it matters who comes first."""
    found = []
    for seed in range(many):
        choice = random.Random(seed)
        found.append(program_of(seed, choice) if seed % 4 == 0 else Rival(choice).program())
    return found


def all_orders(program, most):
    """The pairs (end, order) for all orders that lead to an end state, or None if there are more than most."""
    world = World(program)
    found, waiting = [], [([], world.first())]
    while waiting:
        order, state = waiting.pop()
        steps = world.possible(state)
        if not steps:
            found.append((world.end_of(state), order))
        waiting += [([*order, step], world.after(state, step)) for step in steps]
        if len(found) + len(waiting) > most or len(order) > 100:
            return None
    return found


def key_of(order):
    return len(order), [9 if step == "tick" else step for step in order]


def least_of_shortest(orders):
    found = {}
    for end, order in sorted(orders, key=lambda pair: key_of(pair[1])):
        found.setdefault(end, order)
    return list(found.items())


class StatesTest(unittest.TestCase):
    def test_the_order_in_which_states_are_found(self):
        for text in (TWO, LATE, *PROGRAMS):
            program = read_program(text)
            world = World(program)
            states = [world.first()]
            for state in states:
                for step in world.possible(state):
                    behind = world.after(state, step)
                    if behind not in states:
                        states.append(behind)
            self.assertEqual(reachable(program), states)
            self.assertIsInstance(reachable(program), list)

    def test_numbers_of_states(self):
        self.assertEqual([len(reachable(pauses(*ticks))) for ticks in ((), (0,), (5,), (5, 0))], [1, 3, 8, 10])
        self.assertEqual(len(reachable(read_program(TWO))), 5)

    def test_3000_states_and_one_more(self):
        self.assertEqual(len(reachable(pauses(1000, 1000, 993))), 3000)
        (end, order), = explore(pauses(1000, 1000, 993))
        self.assertEqual((end, len(order)), (((), (("ended",),), ((),)), 2999))
        self.assertEqual(order[:3] + order[-2:], [0, "tick", "tick", "tick", 0])
        for call in (explore, reachable):
            with self.assertRaises(TooLarge) as caught:
                call(pauses(1000, 1000, 994))
            self.assertEqual(caught.exception.limit, "states")
            self.assertIs(caught.exception.__class__, TooLarge)

    def test_very_many_states(self):
        program = read_program("".join(f"thread {name}\npause 1000\npause 1000\nend\n" for name in "abcdef"))
        for call in (explore, reachable):
            with self.assertRaises(TooLarge):
                call(program)


class MachineTest(unittest.TestCase):
    def test_machines_settle_to_ends_that_exploring_finds(self):
        choice = random.Random(1)
        for program in [*drawn(120), *[read_program(text) for text in (TWO, LATE, *PROGRAMS)]]:
            try:
                ends = [end for end, _ in explore(program)]
            except TooLarge:
                continue
            for _ in range(6):
                machine = Machine(program, stripes=choice.randint(1, 5))
                machine.run(random_picks(choice, len(program.threads), choice.randint(0, 120)))
                machine.settle()
                self.assertIn(machine.end(), ends)

    def test_all_ends_are_those_of_machines(self):
        for text in (TWO, LATE, *PROGRAMS):
            program = read_program(text)
            seen = set()
            for seed in range(200):
                choice = random.Random(seed)
                machine = Machine(program, stripes=choice.randint(1, 5))
                machine.run(random_picks(choice, len(program.threads), 60))
                machine.settle()
                seen.add(machine.end())
            self.assertEqual(seen, {end for end, _ in explore(program)})


if __name__ == "__main__":
    unittest.main()
