"""What holds for semaphores, barriers, channels and exchanges, in all orders of small programs."""

import unittest

from handshaker.explore import explore
from handshaker.flat import flat_thread
from handshaker.library import give, meet, receive, send, swap, take
from handshaker.reader import read_program
from handshaker.world import World

NAMES = ("ann", "bob", "cid", "dan", "eve")


def program_of(cells, bodies):
    text = cells + "\n"
    for number, (name, body) in enumerate(zip(NAMES, bodies)):
        text += f"thread {name}\nlocal x = {number + 1}\nlocal role = 0\n{body}\nend\n"
    return read_program(text)


def blocks_of(statements):
    """The block statements of a list, in order."""
    found = []
    for statement in statements:
        if statement[0] == "block":
            found.append(statement)
            found += blocks_of(statement[3])
        else:
            for part in statement:
                found += blocks_of(part) if isinstance(part, list) else []
    return found


class Orders:
    """Goes through all orders of a program, with notes of the blocks that are done."""

    def __init__(self, program):
        self.world = World(program)
        self.blocks = []
        for thread in program.threads:
            code, _ = flat_thread(thread, program.cells)
            places = [at for at, instruction in enumerate(code) if instruction[0] == "block"]
            self.blocks.append(dict(zip(places, blocks_of(thread.body))))

    def all_notes(self, in_order=True):
        """All pairs of a state and the notes (thread, statement, x before, x behind) on a way to it."""
        waiting = [(self.world.first(), ())]
        seen = set(waiting)
        while waiting:
            state, notes = waiting.pop()
            yield state, notes
            for step in self.world.possible(state):
                behind = notes + self.note(state, step)
                pair = self.world.after(state, step), behind if in_order else tuple(sorted(behind))
                if pair not in seen:
                    seen.add(pair)
                    waiting.append(pair)

    def note(self, state, step):
        at, frame, _, _, _ = state[1][step]
        outcome = self.world.outcome(state, step)
        if outcome is None or outcome.kind != "done":
            return ()
        return ((step, str(self.blocks[step][at]), frame[0], outcome.finals[0]),)


class LibraryTest(unittest.TestCase):
    def test_semaphores(self):
        taking, giving = str(take("s")[0]), str(give("s")[0])
        inside = "take s\natomic\nput inside = inside + 1\nend\natomic\nput inside = inside - 1\nend\ngive s"
        for first in (0, 1, 2):
            program = program_of(f"semaphore s {first}\ncell inside = 0", [inside, inside, inside + "\ntake s", "give s"])
            many = 0
            for (memory, _), notes in Orders(program).all_notes(in_order=False):
                words = [note[1] for note in notes]
                self.assertGreaterEqual(memory[0], 0)
                self.assertEqual(memory[0], first + words.count(giving) - words.count(taking))
                self.assertLessEqual(memory[1], first + 1)
                many += 1
            self.assertGreater(many, 40)

    def test_barriers(self):
        for n, threads, rounds in ((1, 2, 2), (2, 2, 3), (2, 3, 1), (2, 4, 1), (3, 3, 2)):
            first, second = [str(one) for one in meet("w", n, "x")]
            program = program_of(f"barrier w {n}", [f"repeat {rounds}\nmeet w x\nsay x\nend"] * threads)
            for (_, states), notes in Orders(program).all_notes():
                begun = [note[3] for note in notes if note[1] == first]
                behind = [note[2] for note in notes if note[1] == second]
                self.assertEqual(len(begun) + len(behind), len(notes))
                for x in behind:
                    self.assertEqual(begun.count(x), n)
                self.assertTrue(all(begun.count(x) <= n for x in begun))
                self.assertEqual(sorted(behind), sorted(sum((list(said) for _, _, _, said, _ in states), [])))

    def test_barriers_in_the_end(self):
        program = program_of("barrier w 3", ["repeat 2\nmeet w x\nsay x\nend"] * 3)
        self.assertEqual([end[1:] for end, _ in explore(program)], [((("ended",),) * 3, ((0, 1),) * 3)])

    def test_channels(self):
        for n in (1, 2, 3):
            sending, receiving = str(send("mail", n, ("local", "x"))[0]), str(receive("mail", n, "x")[0])
            bodies = ["repeat 2\nsend mail x\nset x = x + 10\nend", "send mail x", "repeat 2\nreceive mail x\nsay x\nend",
                      "receive mail x\nsay x"]
            for (_, states), notes in Orders(program_of(f"channel mail {n}", bodies)).all_notes():
                sent = [note[2] for note in notes if note[1] == sending]
                received = [note[3] for note in notes if note[1] == receiving]
                self.assertEqual(received, sent[:len(received)])
                self.assertLessEqual(len(sent) - len(received), n)
                self.assertEqual(len(sent) + len(received), len(notes))
            for end, _ in explore(program_of(f"channel mail {n}", bodies)):
                self.assertEqual(end[1], (("ended",),) * 4)
                self.assertEqual(sorted(end[2][2] + end[2][3]), [1, 2, 11])

    def test_exchanges(self):
        first, second = str(swap("e", "x", "role")[0]), str(swap("e", "x", "role")[1][2][0])
        for bodies in (["swap e x role"] * 2, ["swap e x role"] * 3, ["swap e x role"] * 4, ["swap e x role"],
                       ["repeat 2\nswap e x role\nend"] * 2, ["repeat 2\nswap e x role\nend", "swap e x role"]):
            for _, notes in Orders(program_of("exchange e", bodies)).all_notes():
                comings = [(thread, x, behind) for thread, word, x, behind in notes if word == first]
                others = [note for note in notes if note[1] == second]
                # The first of each two has come to wait, and the second one has found it.
                for place in range(0, len(comings) - 1, 2):
                    (waiter, own, _), (_, found, taken) = comings[place:place + 2]
                    self.assertEqual(taken, own)
                    if place // 2 < len(others):
                        self.assertEqual(others[place // 2][0], waiter)
                        self.assertEqual(others[place // 2][3], found)
                self.assertLessEqual(len(comings) // 2 - len(others), 1)
                self.assertLessEqual(len(others), len(comings) // 2)

    def test_exchanges_in_the_end(self):
        ends = explore(program_of("exchange e", ["swap e x role\nsay x"] * 3))
        said = {end[2] for end, _ in ends}
        self.assertEqual(said, {((), (3,), (2,)), ((2,), (1,), ()), ((3,), (), (1,))})
        for end, _ in ends:
            self.assertEqual(sorted(end[1]), [("asleep",), ("ended",), ("ended",)])


if __name__ == "__main__":
    unittest.main()
