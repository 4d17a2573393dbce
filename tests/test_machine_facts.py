import random
import unittest

from handshaker.machine import Machine, stamped
from handshaker.reader import read_program
from tests.facts import Watched, told
from tests.programs import Contender, Maker
from tests.worlds import PlainWorld

# Programs in which much can happen in many orders.
PROGRAMS = (
    "cell a = 0\nthread one\natomic\nput a = a + 1\nend\nend\nthread two\natomic\nput a = a * 2\nend\nend",
    "cell a = 0\ncell b = 0\nthread one\natomic\nput a = 1\nput b = 1\nend\nend\n"
    "thread two\nlocal x = 0\natomic\nset x = a - b\nif x\nput a = 99\nend\nend\nsay x\nend",
    "cell a = 0\nthread one\nlocal x = 0\natomic within 2\nif a = 0\nretry\nend\nset x = a\nlate\nsay 9\nend\nsay x\nend\n"
    "thread two\npause 1\natomic\nput a = 5\nend\nend",
    "cell a = 1\ncell b = 1\nthread one\natomic\nchoose\nif a = 0\nretry\nend\nput a = a - 1\nlater 1\nor\nif b = 0\n"
    "retry\nend\nput b = b - 1\nlater 2\nend\nend\nend\nthread two\natomic\nif a = 0\nretry\nend\nput a = 0\nend\nend\n"
    "thread three\natomic\nput b = 0\nput a = 1\nend\nend",
    "cell a 2 = 0\nthread one\nlocal x = 0\natomic\nput a(a(1)) = 3\nset x = a\nif x = 0\nundo\nend\nend\nsay x\nend\n"
    "thread two\natomic\nput a(1) = 2\nend\natomic\nput a(1) = 1\nend\nend",
)


def random_picks(choice, threads, many):
    """Picks of steps, of some threads more often than of others, and of a few ticks."""
    weights = [choice.random() + 0.05 for _ in range(threads)]
    return [-1 if choice.random() < 0.04 else choice.choices(range(threads), weights)[0] for _ in range(many)]


def program_of(seed, choice):
    return (Contender if seed % 4 else Maker)(choice).program()


class FactsTest(unittest.TestCase):
    def watch(self, program, choice, many, every):
        watched = Watched(self, program, choice.randint(1, 5))
        for at, pick in enumerate(random_picks(choice, len(program.threads), many)):
            watched.pick(pick)
            if at % every == 0:
                watched.check()
        watched.check()
        watched.settle()
        watched.check()
        return watched

    def test_many_programs_in_many_orders(self):
        kinds, ends = {}, {}
        for seed in range(500):
            choice = random.Random(seed)
            watched = self.watch(program_of(seed, choice), choice, choice.randint(0, 250), 7)
            for kind, many in watched.kinds.items():
                kinds[kind] = kinds.get(kind, 0) + many
            for end in watched.machine.end()[1]:
                ends[end[0]] = ends.get(end[0], 0) + 1
        self.assertGreater(min(kinds[kind] for kind in ("done", "undo", "retry", "fault", "lost")), 30)
        self.assertGreater(min(ends[end] for end in ("ended", "broken", "asleep")), 100)

    def test_some_programs_in_very_many_orders(self):
        for text in PROGRAMS:
            program = read_program(text)
            ends = PlainWorld(program).ends(1000)
            seen = set()
            for seed in range(150):
                watched = self.watch(program, random.Random(seed), 60, 3)
                self.assertIn(watched.machine.end(), ends)
                seen.add(watched.machine.end())
            self.assertEqual(seen, set(ends))

    def test_two_machines_with_the_same_picks_are_equal(self):
        for seed in range(60):
            choice = random.Random(seed)
            program = program_of(seed, choice)
            stripes = choice.randint(1, 5)
            first, second = Machine(program, stripes=stripes), Machine(program, stripes=stripes)
            picks = random_picks(choice, len(program.threads), 150)
            did = 0
            for pick in picks:
                before = first.moment()
                self.assertEqual(first.run([pick]), first.moment() - before)
                did += first.moment() - before
                self.assertIs(second.tick() if pick == -1 else second.step(pick), first.moment() > before)
                self.assertEqual(told(first), told(second))
            third = Machine(program, stripes=stripes)
            self.assertEqual(third.run(picks), did)
            self.assertEqual(told(third), told(first))
            self.assertEqual(first.settle(most=50), third.settle(most=50))
            self.assertEqual(told(third), told(first))

    def test_settling_chooses_as_told(self):
        for seed in range(60):
            choice = random.Random(seed)
            program = program_of(seed, choice)
            picks = random_picks(choice, len(program.threads), 40)
            watched = Watched(self, program, 3)
            machine = Machine(program, stripes=3)
            machine.run(picks)
            for pick in picks:
                watched.pick(pick)
            self.assertEqual(machine.settle(most=100000), watched.settle())
            self.assertEqual(told(machine), told(watched.machine))


class EndsTest(unittest.TestCase):
    def test_the_ends_are_those_of_whole_blocks(self):
        for seed in range(100):
            choice = random.Random(seed)
            program = program_of(seed, choice)
            world = PlainWorld(program)
            ends = world.ends(800)
            if ends is None:
                continue
            for _ in range(8):
                machine = Machine(program, stripes=choice.randint(1, 5))
                machine.run(random_picks(choice, len(program.threads), choice.randint(0, 150)))
                machine.settle()
                self.assertIn(machine.end(), ends)
            for end, order in ends.items():
                self.assertEqual(self.follow(world, order, choice.randint(1, 5)), end)

    def follow(self, world, order, stripes):
        """The end of a machine that takes an order of whole blocks, block by block."""
        machine = Machine(world.program, stripes=stripes)
        state = world.first
        for step in order:
            if step == -1:
                self.assertIs(machine.tick(), True)
            else:
                self.whole_step(machine, world, state[1][step], step)
            state = world.after(state, step)
        machine.settle()
        return machine.end()

    def whole_step(self, machine, world, thread, number):
        at, _, ticks, _, _ = thread
        instruction = world.codes[number][at]
        records = len(machine.records())

        def goes_on():
            if instruction[0] == "pause":
                return machine.stages()[number] not in ("pausing", "broken")
            if instruction[2] is not None and ticks == -1:
                # It is armed and has not begun a try.
                return not machine._runners[number].is_before_try() and machine.stages()[number] != "broken"
            return len(machine.records()) == records or machine.stages()[number] in ("trying", "ending")

        if instruction[0] == "pause" and ticks == 0:
            self.assertIs(machine.step(number), True)
        else:
            while goes_on():
                self.assertIs(machine.step(number), True)


class OrderTest(unittest.TestCase):
    def test_a_reader_that_does_not_write_stands_behind_the_writer_of_its_stamp(self):
        text = "cell a = 0\nthread one\natomic\nput a = 1\nend\nend\nthread two\nlocal x = 0\natomic\nset x = a\nend\nend"
        machine = Machine(read_program(text))
        machine.settle()
        self.assertEqual([(one.thread, one.stamp) for one in stamped(machine.records())], [(0, 1), (1, 1)])

    def test_two_writers_that_cross_are_not_both_done(self):
        text = "cell a = 0\ncell b = 0\nthread one\natomic\nput a = b + 1\nend\nend\n"
        program = read_program(text + "thread two\natomic\nput b = a + 1\nend\nend")
        for stripes in (1, 2, 4):
            ends = set()
            for seed in range(200):
                machine = Machine(program, stripes=stripes)
                machine.run(random_picks(random.Random(seed), 2, 40))
                machine.settle()
                ends.add(tuple(machine.memory()))
            self.assertEqual(ends, {(1, 2), (2, 1)})


if __name__ == "__main__":
    unittest.main()
