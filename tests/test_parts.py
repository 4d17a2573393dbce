import unittest

from handshaker.limits import are_within_limits, measure
from handshaker.parts import expressions_of, lists_of, occurs, parts_of
from tests.programs import WORDS_OF_TWO

ONE = ("number", 1)
X = ("local", "x")


class PartsTest(unittest.TestCase):
    def test_parts_of_expressions(self):
        rows = (
            (ONE, ()), (X, ()), (("slot", 3), ()), (("cell", "a", X), (X,)), (("negative", X), (X,)),
            (("not", ONE), (ONE,)),
        )
        for expression, parts in rows:
            self.assertEqual(parts_of(expression), parts)
        for word in WORDS_OF_TWO:
            self.assertEqual(parts_of((word, X, ONE)), (X, ONE))

    def test_occurs(self):
        whole = ("and", ("not", X), ("cell", "a", ("negative", ONE)))
        for word in ("and", "not", "local", "cell", "negative", "number"):
            self.assertIs(occurs(word, whole), True)
        for word in ("or", "slot", "x", "a"):
            self.assertIs(occurs(word, whole), False)

    def test_expressions_and_lists_of_statements(self):
        first, second = [("undo",)], [("retry",)]
        rows = (
            (("set", "x", ONE), (ONE,), ()), (("put", "a", X, ONE), (X, ONE), ()), (("say", X), (X,), ()),
            (("pause", X), (X,), ()), (("later", X), (X,), ()), (("retry",), (), ()), (("undo",), (), ()),
            (("if", X, first, second), (X,), (first, second)), (("repeat", X, first), (X,), (first,)),
            (("choose", first, second), (), (first, second)),
            (("block", None, first, []), (), (first, [])), (("block", X, first, second), (X,), (first, second)),
        )
        for statement, expressions, lists in rows:
            self.assertEqual(expressions_of(statement), expressions)
            self.assertEqual(lists_of(statement), lists)

    def test_measure(self):
        self.assertEqual(measure([]), (0, 0, 0))
        self.assertEqual(measure([("undo",), ("undo",)]), (2, 0, 0))
        self.assertEqual(measure([("if", X, [], [])]), (1, 1, 0))
        inner = [("if", X, [("undo",)], [("choose", [], [("undo",)])])]
        self.assertEqual(measure([("block", None, inner, []), ("say", X)]), (6, 3, 0))
        self.assertEqual(measure([("repeat", X, [("repeat", X, [])]), ("repeat", X, [])]), (3, 2, 2))

    def test_limits(self):
        self.assertTrue(are_within_limits(80, 6, 2))
        for many, lists, repeats in ((81, 6, 2), (80, 7, 2), (80, 6, 3)):
            self.assertFalse(are_within_limits(many, lists, repeats))


if __name__ == "__main__":
    unittest.main()
