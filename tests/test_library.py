import unittest

from handshaker.errors import InvalidCount
from handshaker.library import barrier, channel, exchange, give, meet, receive, semaphore, send, swap, take
from tests.examples import run_example

EXAMPLE = """
>>> from handshaker.library import channel, give, swap
>>> channel("mail", 2), give("s")
(('mail', 4, 0), [('block', None, [('put', 's', ('number', 0), ('plus', ('cell', 's', ('number', 0)), ('number', 1)))], [])])
>>> len(swap("e", "x", "r")), swap("e", "x", "r")[1][:2]
(2, ('if', ('local', 'r')))
"""


def number(value):
    return ("number", value)


def cell(name, index):
    return ("cell", name, ("number", index))


class LibraryTest(unittest.TestCase):
    def test_example(self):
        run_example(self, EXAMPLE)

    def test_cells(self):
        self.assertEqual([semaphore("s", n) for n in (0, 1, 1000)], [("s", 1, 0), ("s", 1, 1), ("s", 1, 1000)])
        self.assertEqual([barrier("w", n) for n in (1, 3, 6)], [("w", 2, 0)] * 3)
        self.assertEqual([channel("m", n) for n in (1, 2, 10)], [("m", 3, 0), ("m", 4, 0), ("m", 12, 0)])
        self.assertEqual(exchange("e"), ("e", 3, 0))

    def test_numbers_outside_of_their_range(self):
        rows = ((semaphore, (-1, 1001, -1000000000)), (barrier, (0, 7, -1)), (channel, (0, 11, -5)))
        for make, numbers in rows:
            for n in numbers:
                with self.subTest(make=make.__name__, n=n):
                    with self.assertRaises(InvalidCount) as caught:
                        make("c", n)
                    self.assertIs(caught.exception.__class__, InvalidCount)

    def test_take_and_give(self):
        c = cell("s", 0)
        self.assertEqual(take("s"), [("block", None, [
            ("if", ("less", c, number(1)), [("retry",)], []),
            ("put", "s", number(0), ("minus", c, number(1))),
        ], [])])
        self.assertEqual(give("s"), [("block", None, [("put", "s", number(0), ("plus", c, number(1)))], [])])

    def test_meet(self):
        one_more = ("plus", cell("w", 0), number(1))
        self.assertEqual(meet("w", 3, "x"), [
            ("block", None, [
                ("set", "x", cell("w", 1)),
                ("if", ("same", one_more, number(3)), [
                    ("put", "w", number(0), number(0)),
                    ("put", "w", number(1), ("plus", cell("w", 1), number(1))),
                ], [
                    ("put", "w", number(0), one_more),
                ]),
            ], []),
            ("block", None, [("if", ("same", cell("w", 1), ("local", "x")), [("retry",)], [])], []),
        ])

    def test_send(self):
        p, m = cell("m", 2), cell("m", 3)
        self.assertEqual(send("m", 2, ("times", ("local", "x"), number(7))), [("block", None, [
            ("if", ("same", m, number(2)), [("retry",)], []),
            ("put", "m", ("rest", ("plus", p, m), number(2)), ("times", ("local", "x"), number(7))),
            ("put", "m", number(3), ("plus", m, number(1))),
        ], [])])

    def test_receive(self):
        p, m = cell("m", 10), cell("m", 11)
        self.assertEqual(receive("m", 10, "x"), [("block", None, [
            ("if", ("same", m, number(0)), [("retry",)], []),
            ("set", "x", ("cell", "m", p)),
            ("put", "m", number(10), ("rest", ("plus", p, number(1)), number(10))),
            ("put", "m", number(11), ("minus", m, number(1))),
        ], [])])

    def test_swap(self):
        c = cell("e", 0)
        self.assertEqual(swap("e", "x", "r"), [
            ("block", None, [
                ("if", ("same", c, number(2)), [("retry",)], []),
                ("if", ("same", c, number(0)), [
                    ("set", "r", number(1)),
                    ("put", "e", number(0), number(1)),
                    ("put", "e", number(1), ("local", "x")),
                ], [
                    ("set", "r", number(0)),
                    ("put", "e", number(2), ("local", "x")),
                    ("set", "x", cell("e", 1)),
                    ("put", "e", number(0), number(2)),
                ]),
            ], []),
            ("if", ("local", "r"), [
                ("block", None, [
                    ("if", ("not", ("same", c, number(2))), [("retry",)], []),
                    ("set", "x", cell("e", 2)),
                    ("put", "e", number(0), number(0)),
                ], []),
            ], []),
        ])

    def test_lists_are_new(self):
        calls = (
            lambda: take("s"), lambda: give("s"), lambda: meet("w", 2, "x"), lambda: send("m", 1, number(5)),
            lambda: receive("m", 1, "x"), lambda: swap("e", "x", "r"),
        )
        for call in calls:
            first, untouched = call(), call()
            lists = all_lists(first)
            self.assertGreater(len(lists), 2)
            for one in lists:
                one.append(("undo",))
            self.assertEqual(call(), untouched)


def all_lists(statements):
    found = [statements]
    for statement in statements:
        for part in statement:
            if isinstance(part, list):
                found += all_lists(part)
    return found


if __name__ == "__main__":
    unittest.main()
