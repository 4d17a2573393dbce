import copy
import unittest

from handshaker.errors import Fault
from handshaker.values import evaluate
from handshaker.walk import evaluate_slots, walk_block
from tests.examples import run_example
from tests.programs import WORDS_OF_TWO

EXAMPLE = """
>>> from handshaker.walk import walk_block
>>> cells = [("a", 1, 5)]
>>> a = ("cell", "a", ("number", 0))
>>> code, count = flat_block([("put", "a", ("number", 0), ("plus", a, ("local", "x")))], cells, ["x"])
>>> outcome = walk_block(code, [3] + [0] * (count - 1), 1, [5])
>>> outcome.kind, outcome.reads, outcome.writes
('done', {0: 5}, {0: 8})
"""
ZERO = ("number", 0)
ONE = ("number", 1)
ZERO_FAULT = ("over", ONE, ZERO)
MEMORY = [10, 20, 30]


def slot(number):
    return ("slot", number)


def number(value):
    return ("number", value)


class ExampleTest(unittest.TestCase):
    def test_example(self):
        run_example(self, EXAMPLE, run_example(self, ">>> from handshaker.flat import flat_block, has_cells"))


class EvaluateSlotsTest(unittest.TestCase):
    def test_values(self):
        frame = [3, -4, 0]
        rows = (
            (number(7), 7), (slot(0), 3), (slot(1), -4), (("negative", slot(1)), 4), (("not", slot(2)), 1),
            (("not", slot(0)), 0), (("plus", slot(0), slot(1)), -1), (("minus", slot(0), slot(1)), 7),
            (("times", slot(0), slot(1)), -12), (("over", slot(1), slot(0)), -2), (("rest", slot(1), slot(0)), 2),
            (("less", slot(1), slot(0)), 1), (("atmost", slot(0), slot(0)), 1), (("same", slot(0), slot(1)), 0),
            (("and", slot(0), slot(1)), 1), (("or", slot(2), slot(2)), 0), (("and", slot(2), ZERO_FAULT), 0),
            (("or", slot(0), ZERO_FAULT), 1),
        )
        for expression, value in rows:
            self.assertEqual(evaluate_slots(expression, frame), value, expression)
        self.assertEqual(frame, [3, -4, 0])

    def test_as_with_locals(self):
        for first in (-7, 0, 1, 5):
            for second in (-2, 1, 3):
                for word in WORDS_OF_TWO:
                    expected = evaluate((word, ("local", "x"), ("local", "y")), {"x": first, "y": second})
                    self.assertEqual(evaluate_slots((word, slot(1), slot(0)), [second, first]), expected)

    def test_faults(self):
        rows = (
            ("zero", ("over", slot(0), slot(1))), ("zero", ("rest", slot(0), slot(1))),
            ("range", ("times", slot(2), number(2))), ("range", number(1000000001)),
            ("zero", ("plus", ZERO_FAULT, ("negative", number(-1000000001)))),
        )
        for reason, expression in rows:
            with self.assertRaises(Fault) as caught:
                evaluate_slots(expression, [5, 0, 1000000000])
            self.assertEqual(caught.exception.reason, reason)

    def test_deep_expressions(self):
        expression = slot(0)
        for _ in range(9000):
            expression = ("plus", expression, slot(0))
        self.assertEqual(evaluate_slots(expression, [2]), 18002)


class WalkTest(unittest.TestCase):
    def walk(self, code, frame, many=2):
        memory, old_frame, old_code = list(MEMORY), list(frame), list(code)
        outcome = walk_block(code, frame, many, memory)
        self.assertEqual((memory, frame, code), (MEMORY, old_frame, old_code))
        return outcome

    def assert_done(self, code, reads=None, writes=None, finals=(1, 2), later=(), frame=(1, 2, 3)):
        outcome = self.walk(code, list(frame))
        found = (outcome.kind, outcome.reads, outcome.writes, outcome.finals, outcome.later, outcome.reason)
        self.assertEqual(found, ("done", reads or {}, writes or {}, list(finals), list(later), None))

    def assert_ends(self, kind, code, reads=None, reason=None):
        outcome = self.walk(code, [1, 2, 3])
        found = (outcome.kind, outcome.reads, outcome.writes, outcome.finals, outcome.later, outcome.reason)
        self.assertEqual(found, (kind, reads or {}, {}, [1, 2], [], reason))

    def test_no_code(self):
        self.assert_done([])
        self.assertEqual(self.walk([], [1, 2, 3], 0).finals, [])
        self.assertEqual(self.walk([], [], 0).finals, [])

    def test_set(self):
        self.assert_done([("set", 1, number(7))], finals=(1, 7))
        self.assert_done([("set", 2, number(7)), ("set", 0, slot(2))], finals=(7, 2))

    def test_load(self):
        self.assert_done([("load", 0, 0, 1, ZERO)], {0: 10}, finals=(10, 2))
        self.assert_done([("load", 0, 1, 2, slot(0)), ("load", 1, 1, 2, ZERO)], {2: 30, 1: 20}, finals=(30, 20))
        for index in (-1, 2, 3):
            self.assert_ends("fault", [("set", 0, ZERO), ("load", 0, 1, 2, number(index))], reason="index")
        self.assert_ends("fault", [("load", 0, 1, 2, ZERO), ("load", 0, 1, 2, ZERO_FAULT)], {1: 20}, "zero")

    def test_put(self):
        self.assert_done([("put", 1, 2, ONE, slot(0))], writes={2: 1})
        self.assert_done([("put", 0, 3, ZERO, ONE), ("put", 0, 3, ZERO, number(4))], writes={0: 4})
        self.assert_done([("put", 0, 3, ONE, number(4)), ("load", 0, 1, 1, ZERO)], {}, {1: 4}, (4, 2))
        for index in (-1, 2):
            self.assert_ends("fault", [("put", 1, 2, number(index), ONE)], reason="index")
            self.assert_ends("fault", [("put", 1, 2, number(index), ZERO_FAULT)], reason="zero")
        self.assert_ends("fault", [("put", 1, 2, number(1000000001), ZERO_FAULT)], reason="range")

    def test_jump(self):
        self.assert_done([("jump", 2), ("set", 0, ZERO), ("set", 1, ZERO)], finals=(1, 0))
        self.assert_done([("jump", 2), ("set", 0, ZERO)])
        self.assert_done([("jump", 2), ("jump", 3), ("jump", 1), ("later", ONE)], later=(1,))

    def test_unless(self):
        for value, later in ((1, (5, 6)), (-1, (5, 6)), (0, (6,))):
            code = [("unless", number(value), 2), ("later", number(5)), ("later", number(6))]
            self.assert_done(code, later=later)
        self.assert_done([("unless", ZERO, 2), ("set", 0, ZERO)])
        self.assert_ends("fault", [("unless", ZERO_FAULT, 1)], reason="zero")

    def test_count(self):
        for value in (0, 1, 20):
            self.assert_done([("count", 1, number(value))], finals=(1, value))
        for value in (-1, 21, 1000):
            self.assert_ends("fault", [("later", ONE), ("count", 0, number(value))], reason="count")
        self.assert_ends("fault", [("count", 0, ZERO_FAULT)], reason="zero")

    def test_later(self):
        self.assert_done([("later", slot(0)), ("set", 0, number(7)), ("later", slot(0))], finals=(7, 2), later=(1, 7))
        self.assert_ends("fault", [("later", ONE), ("later", ZERO_FAULT)], reason="zero")

    def test_retry_and_undo(self):
        for word in ("retry", "undo"):
            self.assert_ends(word, [(word,)])
            before = [("load", 0, 0, 3, ZERO), ("put", 0, 3, ONE, ONE), ("later", ONE)]
            self.assert_ends(word, [*before, (word,), ("load", 0, 0, 3, number(2))], {0: 10})

    def test_what_is_put_back(self):
        code = [
            ("set", 2, number(7)), ("put", 0, 3, ZERO, ONE), ("later", ONE), ("try", 9),
            ("set", 2, number(8)), ("load", 0, 0, 3, number(2)), ("put", 0, 3, ONE, ONE), ("later", number(2)),
            ("retry",),
            ("set", 1, slot(2)),
        ]
        self.assert_done(code, {2: 30}, {0: 1}, (1, 7), (1,))

    def test_what_is_kept(self):
        code = [("try", 4), ("set", 0, number(8)), ("kept",), ("jump", 5), ("set", 1, number(9)), ("later", slot(0))]
        self.assert_done(code, finals=(8, 2), later=(8,))
        self.assert_ends("retry", [("try", 3), ("kept",), ("retry",), ("set", 0, ZERO)])

    def test_the_innermost_is_put_back(self):
        code = [
            ("try", 7), ("later", number(1)), ("try", 5), ("later", number(2)), ("retry",), ("later", number(3)),
            ("retry",), ("later", number(4)),
        ]
        self.assert_done(code, later=(4,))
        self.assert_done([*code[:6], ("kept",), ("later", number(4))], later=(1, 3, 4))
        code = [("try", 3), ("later", ONE), ("retry",), ("try", 5), ("retry",), ("later", number(2))]
        self.assert_done(code, later=(2,))

    def test_to_put_back_behind_the_end(self):
        self.assert_done([("set", 0, number(5)), ("try", 4), ("set", 0, ZERO), ("retry",)], finals=(5, 2))

    def test_what_is_returned_is_new(self):
        memory, frame = list(MEMORY), [1, 2]
        for code in ([], [("undo",)], [("load", 0, 0, 1, ZERO), ("put", 0, 1, ZERO, ONE), ("later", ONE)]):
            outcome = walk_block(code, frame, 2, memory)
            expected = copy.deepcopy(vars(outcome))
            outcome.reads[9] = outcome.writes[9] = 9
            outcome.finals.append(9)
            outcome.later.append(9)
            self.assertEqual(vars(walk_block(code, frame, 2, memory)), expected)
            self.assertEqual((memory, frame), (MEMORY, [1, 2]))


if __name__ == "__main__":
    unittest.main()
