import random
import unittest

from handshaker.library import give, take
from handshaker.machine import stamped
from handshaker.reader import read_program
from tests.facts import Watched
from tests.test_machine_facts import random_picks

NAMES = ("ann", "bob", "cid", "dan", "eve", "fay")


def program_of(cells, bodies):
    text = cells + "\n"
    for number, (name, body) in enumerate(zip(NAMES, bodies)):
        text += f"thread {name}\nlocal x = {number + 1}\nlocal role = 0\n{body}\nend\n"
    return read_program(text)


class LibraryTest(unittest.TestCase):
    def watched(self, program, seeds, each):
        """Machines of a program that come to rest in many orders; each is looked at behind every pick."""
        found = []
        for seed in range(seeds):
            choice = random.Random(seed)
            watched = Watched(self, program, choice.randint(1, 5))
            for pick in random_picks(choice, len(program.threads), choice.randint(0, 400)):
                if watched.pick(pick):
                    each(watched)
            while not watched.machine.is_at_rest():
                watched.pick(watched.choice())
                each(watched)
            watched.check()
            found.append(watched)
        return found

    def test_semaphores(self):
        for first in (0, 1, 2):
            body = "take s\natomic\nput inside = inside + 1\nend\natomic\nput inside = inside - 1\nend\ngive s"
            bodies = ["repeat 2\n" + body + "\nend", body, body, "pause 1\ngive s"]
            program = program_of(f"semaphore s {first}\ncell inside = 0", bodies)

            def each(watched):
                memory, machine = watched.machine.memory(), watched.machine
                self.assertGreaterEqual(memory[0], 0)
                if not machine.is_committing():
                    done = [watched.statements[one.ended] for one in machine.records() if one.kind == "done"]
                    self.assertEqual(memory[0], first + done.count(give("s")[0]) - done.count(take("s")[0]))
                    self.assertLessEqual(memory[1], first + 1)

            for watched in self.watched(program, 25, each):
                self.assertEqual((watched.machine.memory(), watched.machine.end()[1]), ([first + 1, 0], (("ended",),) * 4))

    def test_takes_that_nobody_gives(self):
        program = program_of("semaphore s 1", ["take s"] * 3)
        for watched in self.watched(program, 25, lambda watched: None):
            self.assertEqual(sorted(watched.machine.stages()), ["asleep", "asleep", "ended"])

    def test_barriers(self):
        for threads in (1, 2, 3):
            program = program_of(f"barrier w {threads}", ["repeat 3\nmeet w x\nsay x\nend"] * threads)

            def each(watched):
                # The first block of a meet is the one that writes.
                begun = [one for one in watched.machine.records() if one.kind == "done" and one.writes]
                for said in watched.machine.said():
                    self.assertEqual(said, list(range(len(said))))
                    self.assertGreaterEqual(len(begun), threads * len(said))

            for watched in self.watched(program, 25, each):
                self.assertEqual(watched.machine.said(), [[0, 1, 2]] * threads)

    def test_barriers_for_some_of_the_threads(self):
        program = program_of("barrier w 2", ["meet w x\nsay x"] * 5)
        for watched in self.watched(program, 25, lambda watched: None):
            self.assertEqual(sorted(sum(watched.machine.said(), [])), [0, 0, 1, 1])
            self.assertEqual(sorted(watched.machine.stages()), ["asleep"] + ["ended"] * 4)

    def test_channels(self):
        for size in (1, 2, 3):
            send = "repeat 3\nsend mail x\nset x = x + 10\nend"
            receive = "repeat {}\nreceive mail x\nsay x\nend"
            bodies = [send, send, receive.format(2), receive.format(3)]
            program = program_of(f"channel mail {size}", bodies)
            for watched in self.watched(program, 25, lambda watched: None):
                sent, received = [], []
                for record in stamped(watched.machine.records()):
                    if record.thread < 2:
                        # It is put in behind the items, and counts them.
                        sent.append([value for cell, value in sorted(record.writes.items())][0])
                    else:
                        place = record.reads[size]
                        received.append(record.reads[place])
                    self.assertEqual(received, sent[:len(received)])
                    self.assertLessEqual(len(sent) - len(received), size)
                said = watched.machine.said()
                self.assertEqual(sorted(said[2] + said[3]), sorted(received))
                self.assertEqual(len(received), 5)
                for own in (1, 2):
                    of_one = [value for value in sent if value % 10 == own]
                    self.assertEqual(of_one, [own, own + 10, own + 20][:len(of_one)])

    def test_exchanges(self):
        for threads in (2, 3, 4, 5):
            program = program_of("exchange e", ["swap e x role\nsay x\nsay role"] * threads)
            for watched in self.watched(program, 25, lambda watched: None):
                ended = {number + 1: said for number, said in enumerate(watched.machine.said()) if said}
                self.assertEqual(len(ended), threads // 2 * 2)
                for own, (other, role) in ended.items():
                    self.assertNotEqual(own, other)
                    self.assertEqual(ended[other], [own, 1 - role])

    def test_swaps_one_after_the_other(self):
        program = program_of("exchange e", ["repeat 2\nswap e x role\nend\nsay x"] * 2)
        for watched in self.watched(program, 25, lambda watched: None):
            self.assertEqual(watched.machine.end()[1:], ((("ended",), ("ended",)), ((1,), (2,))))


if __name__ == "__main__":
    unittest.main()
