import random
import unittest

from handshaker.closed import shows
from handshaker.errors import TooLarge
from handshaker.explore import explore, reachable
from handshaker.reader import read_program
from handshaker.world import World, run_order
from tests.test_explore import LATE, TWO, drawn
from tests.test_machine_facts import PROGRAMS

# A thread that is at its block, one that is at its pause, and one that has ended.
THREE = ("cell a = 4\ncell b 2 = 0\nthread one\nlocal x = 0\nrepeat 2\natomic\nput a = a + x\nend\nend\nend\n"
         "thread two\nlocal y = 1\nsay y\npause 1\nend\nthread three\nend")


class ShowsTest(unittest.TestCase):
    def setUp(self):
        self.take_program(LATE)

    def take_program(self, text):
        self.program = read_program(text)
        self.states = reachable(self.program)
        self.ends = [end for end, _ in explore(self.program)]

    def judge(self, states, ends=None):
        verdict = shows(self.program, states, self.ends if ends is None else ends)
        self.assertIn(verdict, (True, False))
        return verdict

    def test_all_that_can_be_reached(self):
        for text in (TWO, LATE, THREE, *PROGRAMS):
            self.take_program(text)
            self.assertIs(self.judge(self.states), True)
            self.assertIs(self.judge(self.states[::-1] * 2, self.ends[::-1] * 2), True)

    def test_arguments_do_not_change(self):
        states, ends = list(self.states), list(self.ends)
        self.judge(self.states)
        self.assertEqual((self.states, self.ends), (states, ends))

    def test_further_ends_do_no_harm(self):
        others = [((), (), ()), ((5,), (("asleep",), ("ended",)), ((), ())), (), ((1, 2), (("broken", "zero"),), ((7,),))]
        self.assertIs(self.judge(self.states, [*others, *self.ends]), True)

    def test_an_end_that_is_missing(self):
        for at in range(len(self.ends)):
            self.assertIs(self.judge(self.states, self.ends[:at] + self.ends[at + 1:]), False)
        self.assertIs(self.judge(self.states, []), False)

    def test_a_state_that_is_missing(self):
        for text in (TWO, LATE, THREE, PROGRAMS[3]):
            self.take_program(text)
            for at in range(len(self.states)):
                self.assertIs(self.judge(self.states[:at] + self.states[at + 1:]), False)
        self.assertIs(self.judge([]), False)
        # Closed but for the first state, which no step leads to.
        self.assertIs(self.judge(self.states[1:]), False)

    def test_further_states_with_all_that_they_lead_to(self):
        self.take_program(TWO)
        _, threads = self.states[0]
        # From another memory, to other ends.
        here = World(self.program)
        found = list(self.states)
        ends = list(self.ends)
        for memory in ((10,), (11,), (20,), (22,), (21,)):
            waiting = [(memory, threads)]
            while waiting:
                state = waiting.pop()
                if state not in found:
                    found.append(state)
                    waiting += [here.after(state, step) for step in here.possible(state)]
                    if here.end_of(state) is not None:
                        ends.append(here.end_of(state))
        self.assertGreater(len(found), 15)
        self.assertIs(self.judge(found, ends), True)
        self.assertIs(self.judge(found), False)
        self.assertIs(self.judge(found + [((77,), threads)], ends), False)
        # An end state that cannot be reached leads nowhere, but its end is among those that are shown.
        last = ((99,), found[-1][1])
        self.assertIsNotNone(here.end_of(last))
        self.assertIs(self.judge([*found, last], ends), False)
        self.assertIs(self.judge([*found, last], [*ends, here.end_of(last)]), True)

    def test_sets_of_other_programs(self):
        other = reachable(read_program(TWO.replace("a * 2", "a * 3")))
        self.take_program(TWO)
        self.assertIs(self.judge(other), False)

    def test_drawn_programs(self):
        choice = random.Random(3)
        many = 0
        for program in drawn(80):
            try:
                self.program, self.states = program, reachable(program)
            except TooLarge:
                continue
            self.ends = [end for end, _ in explore(program)]
            self.assertIs(self.judge(self.states), True)
            at = choice.randrange(len(self.states))
            self.assertIs(self.judge(self.states[:at] + self.states[at + 1:]), False)
            end = choice.choice(self.ends)
            self.assertIs(self.judge(self.states, [one for one in self.ends if one != end]), False)
            many += len(self.states) > 1
        self.assertGreater(many, 50)


class ProperTest(unittest.TestCase):
    def setUp(self):
        self.program = read_program(THREE)
        self.states = reachable(self.program)
        self.ends = [end for end, _ in explore(self.program)]

    def judge(self, state):
        """Whether the reachable states with another one, and all that it leads to, show all ends, whatever they are."""
        here = World(self.program)
        found, ends, waiting = list(self.states), list(self.ends), [state]
        while waiting:
            found.append(waiting.pop())
            try:
                steps = here.possible(found[-1])
                ends.append(here.end_of(found[-1]))
            except (ValueError, IndexError):
                continue
            waiting += [here.after(found[-1], step) for step in steps]
        return shows(self.program, found, ends)

    def changed(self, number, place, value):
        """The first state with another value in the state of a thread."""
        memory, threads = self.states[0]
        thread = threads[number][:place] + (value,) + threads[number][place + 1:]
        return memory, threads[:number] + (thread,) + threads[number + 1:]

    def test_a_proper_state_that_cannot_be_reached(self):
        memory, threads = self.states[0]
        self.assertIs(self.judge(self.states[0]), True)
        self.assertIs(self.judge(((1000000000, -1000000000, 5), threads)), True)
        frame = threads[1][1]
        for place, value in ((1, (-9, *frame[1:])), (2, 4), (2, 0), (3, ()), (3, (1, 2, 3)), (4, "ended"), (4, "zero"),
                             (4, "whatever")):
            self.assertIs(self.judge(self.changed(1, place, value)), True)
        # Whoever has ended may be anywhere.
        for at in (0, 1, 1000):
            self.assertIs(self.judge(self.changed(2, 0, at)), True)

    def test_memories(self):
        memory, threads = self.states[0]
        for wrong in ((), memory[:2], (*memory, 0), (4, 0, 1000000001), (-1000000001, 0, 0)):
            self.assertIs(self.judge((wrong, threads)), False)

    def test_numbers_of_threads(self):
        memory, threads = self.states[0]
        for wrong in ((), threads[:2], (*threads, threads[2])):
            self.assertIs(self.judge((memory, wrong)), False)

    def test_states_that_are_no_pairs_and_threads_that_have_no_five_parts(self):
        memory, threads = self.states[0]
        wrongs = [(), (memory,), (memory, threads, ())]
        for number in (0, 1, 2):
            for thread in ((), threads[number][:4], (*threads[number], 0)):
                wrongs.append((memory, threads[:number] + (thread,) + threads[number + 1:]))
        for wrong in wrongs:
            self.assertIs(shows(self.program, [*self.states, wrong], self.ends), False)

    def test_frames(self):
        for number in (0, 1, 2):
            frame = self.states[0][1][number][1]
            wrongs = [(*frame, 0), (*frame[:-1], 1000000001), (*frame[:-1], -1000000001)]
            if frame:
                wrongs += [frame[:-1], (), (1000000001, *frame[1:])]
            for wrong in wrongs:
                self.assertIs(self.judge(self.changed(number, 1, wrong)), False)

    def test_what_is_said(self):
        for wrong in ((1000000001,), (1, -1000000001), (2, 1000000001, 3)):
            self.assertIs(self.judge(self.changed(1, 3, wrong)), False)

    def test_numbers_of_instructions(self):
        for number in (0, 1, 2):
            for wrong in (-1, -2, -1000):
                self.assertIs(self.judge(self.changed(number, 0, wrong)), False)
        # A thread that is on is at a block or a pause.
        here = World(self.program)
        for at in range(10):
            state = self.changed(1, 0, at)
            self.assertIs(self.judge(state), here.word_at(1, at) in ("block", "pause"))
        self.assertIs(self.judge(self.changed(1, 0, 1000000)), False)
        self.assertIs(self.judge(self.changed(2, 4, "on")), False)

    def test_ticks(self):
        for number in (0, 1, 2):
            self.assertIs(self.judge(self.changed(number, 2, -1)), True)
            for wrong in (-2, -1000):
                self.assertIs(self.judge(self.changed(number, 2, wrong)), False)

    def test_other_slots_may_have_any_values(self):
        # The number of rounds that the repeat has left.
        memory, threads = run_order(self.program, [0])
        at, frame, ticks, said, mode = threads[0]
        self.assertEqual((frame[:1], mode), ((0,), "on"))
        self.assertIn(1, frame[1:])
        for value in (0, 1, 3, 20, 21, -1, 1000000000, -1000000000):
            for place in range(1, len(frame)):
                thread = (at, (*frame[:place], value, *frame[place + 1:]), ticks, said, mode)
                self.assertIs(self.judge((memory, (thread, *threads[1:]))), True)

    def test_one_that_is_not_proper_in_the_middle(self):
        wrong = self.changed(0, 2, -5)
        for at in range(len(self.states) + 1):
            self.assertIs(shows(self.program, [*self.states[:at], wrong, *self.states[at:]], self.ends), False)


if __name__ == "__main__":
    unittest.main()
