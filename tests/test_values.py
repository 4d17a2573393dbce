import copy
import random
import unittest

from handshaker.errors import Fault
from handshaker.values import cell_number, evaluate, first_memory, is_value
from tests.examples import run_example

EXAMPLE = """
>>> from handshaker.values import cell_number, evaluate, first_memory
>>> cells = [("a", 1, 5), ("b", 3, 0)]
>>> first_memory(cells), cell_number(cells, "b", 2)
([5, 0, 0, 0], 3)
>>> evaluate(("plus", ("local", "x"), ("cell", "a", ("number", 0))), {"x": 2}, cells, [5, 0, 0, 0])
7
>>> evaluate(("and", ("number", 0), ("over", ("number", 1), ("number", 0))), {})
0
>>> evaluate(("over", ("number", -7), ("number", 2)), {})
-4
>>> evaluate(("rest", ("number", 1), ("number", 0)), {})
raises Fault
"""
BIG = 1000000000
CELLS = [("a", 1, 5), ("b", 3, 0), ("c", 2, -9)]
MEMORY = [5, 10, 20, 30, -9, 7]
ZERO_FAULT = ("over", ("number", 1), ("number", 0))
INDEX_FAULT = ("cell", "b", ("number", 3))
RANGE_FAULT = ("number", BIG + 1)
FAULTS = (("zero", ZERO_FAULT), ("index", INDEX_FAULT), ("range", RANGE_FAULT))


def number(value):
    return ("number", value)


def of_two(word, first, second):
    return evaluate((word, number(first), number(second)), {})


class Values(unittest.TestCase):
    def assert_fault(self, reason, expression, locals_now=None, cells=CELLS, memory=MEMORY):
        with self.assertRaises(Fault) as caught:
            evaluate(expression, locals_now or {}, cells, memory)
        self.assertIs(caught.exception.__class__, Fault)
        self.assertEqual(caught.exception.reason, reason)


class ExampleTest(Values):
    def test_example(self):
        run_example(self, EXAMPLE)


class IsValueTest(Values):
    def test_integers_in_the_range(self):
        for value in (0, 1, -1, BIG, -BIG):
            self.assertIs(is_value(value), True)

    def test_integers_outside_of_the_range(self):
        for value in (BIG + 1, -BIG - 1, 10 ** 40, -(10 ** 40)):
            self.assertIs(is_value(value), False)

    def test_other_kinds(self):
        for value in (True, False, None, "", "1", b"1", [], [1], (), (1,), {}, {1}, 1.0, object(), int):
            with self.subTest(repr(value)):
                self.assertIs(is_value(value), False)


class MemoryTest(Values):
    def test_first_memory(self):
        self.assertEqual(first_memory(CELLS), [5, 0, 0, 0, -9, -9])
        self.assertEqual(first_memory([]), [])
        self.assertEqual(first_memory([("a", 2, 1), ("b", 1, 2)]), [1, 1, 2])

    def test_first_memory_is_new(self):
        cells = [("a", 2, 1)]
        first_memory(cells).append(3)
        self.assertEqual((first_memory(cells), cells), ([1, 1], [("a", 2, 1)]))

    def test_cell_number(self):
        found = [cell_number(CELLS, "a", 0)]
        found += [cell_number(CELLS, "b", index) for index in range(3)]
        found += [cell_number(CELLS, "c", index) for index in range(2)]
        self.assertEqual(found, [0, 1, 2, 3, 4, 5])

    def test_no_such_cell(self):
        for name, index in (("a", -1), ("a", 1), ("b", -1), ("b", 3), ("c", 2), ("d", 0), ("c", -BIG)):
            with self.subTest(name=name, index=index):
                with self.assertRaises(Fault) as caught:
                    cell_number(CELLS, name, index)
                self.assertEqual(caught.exception.reason, "index")

    def test_arguments_stay(self):
        cells = copy.deepcopy(CELLS)
        first_memory(cells)
        cell_number(cells, "c", 1)
        with self.assertRaises(Fault):
            cell_number(cells, "c", 2)
        self.assertEqual(cells, CELLS)


class OperationsTest(Values):
    def test_numbers(self):
        for value in (0, 5, -5, BIG, -BIG):
            self.assertEqual(evaluate(number(value), {}), value)
        self.assert_fault("range", number(BIG + 1))
        self.assert_fault("range", number(-BIG - 1))

    def test_locals(self):
        self.assertEqual(evaluate(("local", "x"), {"x": -3, "y": 4}), -3)
        self.assertEqual(evaluate(("local", "y"), {"x": -3, "y": 4}), 4)

    def test_cells(self):
        for index in range(3):
            self.assertEqual(evaluate(("cell", "b", number(index)), {}, CELLS, MEMORY), 10 * (index + 1))
        at = ("minus", ("cell", "a", number(0)), number(4))
        self.assertEqual(evaluate(("cell", "c", at), {}, CELLS, MEMORY), 7)
        nested = ("cell", "b", ("cell", "b", ("local", "x")))
        self.assertEqual(evaluate(nested, {"x": 1}, CELLS, [5, 10, 2, 30, 0, 0]), 30)

    def test_cells_by_keyword(self):
        part = ("cell", "a", number(0))
        self.assertEqual(evaluate(expression=part, locals_now={}, cells=CELLS, memory=MEMORY), 5)

    def test_index_of_a_cell(self):
        for name, size in (("a", 1), ("b", 3), ("c", 2)):
            self.assert_fault("index", ("cell", name, number(-1)))
            self.assert_fault("index", ("cell", name, number(size)))
            evaluate(("cell", name, number(size - 1)), {}, CELLS, MEMORY)

    def test_index_is_evaluated_first(self):
        for reason, fault in FAULTS:
            self.assert_fault(reason, ("cell", "a", fault))
        self.assert_fault("zero", ("cell", "a", ("plus", number(9), ZERO_FAULT)))

    def test_negative(self):
        for value in (0, 4, -4, BIG, -BIG):
            self.assertEqual(evaluate(("negative", number(value)), {}), -value)

    def test_not(self):
        for value, found in ((0, 1), (1, 0), (-1, 0), (BIG, 0)):
            self.assertEqual(evaluate(("not", number(value)), {}), found)

    def test_plus_and_minus(self):
        self.assertEqual((of_two("plus", 3, -5), of_two("minus", 3, -5)), (-2, 8))
        self.assertEqual((of_two("plus", BIG - 1, 1), of_two("minus", 1 - BIG, 1)), (BIG, -BIG))
        self.assertEqual(of_two("plus", BIG, -BIG), 0)
        self.assert_fault("range", ("plus", number(BIG), number(1)))
        self.assert_fault("range", ("plus", number(-BIG), number(-1)))
        self.assert_fault("range", ("minus", number(BIG), number(-1)))
        self.assert_fault("range", ("minus", number(-BIG), number(1)))

    def test_times(self):
        self.assertEqual((of_two("times", 3, -5), of_two("times", 0, -BIG)), (-15, 0))
        self.assertEqual((of_two("times", 500000000, 2), of_two("times", BIG, -1)), (BIG, -BIG))
        self.assert_fault("range", ("times", number(500000001), number(2)))
        self.assert_fault("range", ("times", number(-500000001), number(2)))

    def test_an_intermediate_result_must_be_a_value(self):
        self.assert_fault("range", ("minus", ("plus", number(BIG), number(1)), number(5)))

    def test_over_rounds_down(self):
        rows = ((7, 2, 3), (-7, 2, -4), (7, -2, -4), (-7, -2, 3), (6, -2, -3), (0, -5, 0), (1, 3, 0), (-1, 3, -1))
        for first, second, found in rows:
            self.assertEqual(of_two("over", first, second), found)
        self.assertEqual((of_two("over", -BIG, -1), of_two("over", BIG, -BIG)), (BIG, -1))

    def test_rest(self):
        rows = ((7, 2, 1), (-7, 2, 1), (7, -2, -1), (-7, -2, -1), (6, -2, 0), (0, -5, 0), (1, -3, -2), (-1, 3, 2))
        for first, second, found in rows:
            self.assertEqual(of_two("rest", first, second), found)
        self.assertEqual((of_two("rest", -BIG, -1), of_two("rest", -1, BIG)), (0, BIG - 1))

    def test_by_zero(self):
        for word in ("over", "rest"):
            for first in (0, 1, -BIG):
                self.assert_fault("zero", (word, number(first), number(0)))

    def test_comparisons(self):
        for first, second in ((1, 2), (2, 1), (2, 2), (-BIG, BIG), (0, 0), (-1, -2)):
            self.assertEqual(of_two("less", first, second), int(first < second))
            self.assertEqual(of_two("atmost", first, second), int(first <= second))
            self.assertEqual(of_two("same", first, second), int(first == second))
        for word in ("less", "atmost", "same"):
            self.assertIs(of_two(word, 2, 2).__class__, int)

    def test_and_or_give_one_or_zero(self):
        for first in (0, 1, -1, 7):
            for second in (0, 1, -1, 7):
                self.assertEqual(of_two("and", first, second), int(first != 0 and second != 0))
                self.assertEqual(of_two("or", first, second), int(first != 0 or second != 0))
        self.assertIs(of_two("and", 2, 2).__class__, int)
        self.assertIs(of_two("or", 0, 2).__class__, int)

    def test_the_second_part_of_and_and_or(self):
        for reason, fault in FAULTS:
            self.assertEqual(evaluate(("and", number(0), fault), {}, CELLS, MEMORY), 0)
            self.assertEqual(evaluate(("or", number(-2), fault), {}, CELLS, MEMORY), 1)
            self.assert_fault(reason, ("and", number(3), fault))
            self.assert_fault(reason, ("or", number(0), fault))
            self.assert_fault(reason, ("and", fault, number(0)))
            self.assert_fault(reason, ("or", fault, number(1)))

    def test_the_first_fault_from_the_left(self):
        words = ("plus", "minus", "times", "over", "rest", "less", "atmost", "same")
        for word in words:
            for reason, fault in FAULTS:
                for _, other in FAULTS:
                    self.assert_fault(reason, (word, fault, other))
                    self.assert_fault(reason, (word, ("not", fault), other))
        self.assert_fault("range", ("over", ("plus", number(BIG), number(BIG)), number(0)))
        self.assert_fault("index", ("over", number(1), ("minus", INDEX_FAULT, ZERO_FAULT)))
        self.assert_fault("range", ("negative", RANGE_FAULT))

    def test_a_long_row_of_operators(self):
        left = number(0)
        right = number(0)
        for _ in range(20000):
            left = ("plus", left, number(1))
            right = ("not", right)
        self.assertEqual(evaluate(left, {}), 20000)
        self.assertEqual(evaluate(right, {}), 0)

    def test_arguments_stay(self):
        cells = copy.deepcopy(CELLS)
        memory = list(MEMORY)
        locals_now = {"x": 1}
        expression = ("plus", ("cell", "b", ("local", "x")), ("not", number(4)))
        self.assertEqual(evaluate(expression, locals_now, cells, memory), 20)
        with self.assertRaises(Fault):
            evaluate(("plus", expression, ZERO_FAULT), locals_now, cells, memory)
        self.assertEqual((cells, memory, locals_now), (CELLS, MEMORY, {"x": 1}))
        self.assertEqual(expression, ("plus", ("cell", "b", ("local", "x")), ("not", ("number", 4))))


def simple_value(part, locals_now):
    """Evaluate the plain way, call by call: what the program does with a list of its own."""
    word = part[0]
    if word == "number":
        return checked(part[1])
    if word == "local":
        return locals_now[part[1]]
    if word == "cell":
        index = simple_value(part[2], locals_now)
        ahead = {"a": 0, "b": 1, "c": 4}[part[1]]
        size = {"a": 1, "b": 3, "c": 2}[part[1]]
        if not 0 <= index < size:
            raise Fault("index")
        return MEMORY[ahead + index]
    first = simple_value(part[1], locals_now)
    if word == "negative":
        return -first
    if word == "not":
        return int(not first)
    if word == "and":
        return int(bool(first and simple_value(part[2], locals_now)))
    if word == "or":
        return int(bool(first or simple_value(part[2], locals_now)))
    second = simple_value(part[2], locals_now)
    if word in ("over", "rest") and second == 0:
        raise Fault("zero")
    return checked({
        "plus": lambda: first + second, "minus": lambda: first - second, "times": lambda: first * second,
        "over": lambda: first // second, "rest": lambda: first - second * (first // second),
        "less": lambda: int(first < second), "atmost": lambda: int(first <= second),
        "same": lambda: int(first == second),
    }[word]())


def checked(value):
    if not -BIG <= value <= BIG:
        raise Fault("range")
    return value


def any_expression(choice, depth):
    if depth == 0 or choice.random() < 0.2:
        return choice.choice((
            number(choice.randint(-3, 4)), number(choice.choice((BIG, -BIG, BIG + 1, 40000))),
            ("local", choice.choice("xy")), ("cell", "a", number(0)),
        ))
    word = choice.choice(("negative", "not", "cell", "plus", "minus", "times", "over", "rest",
                          "less", "atmost", "same", "and", "or"))
    if word == "cell":
        return (word, choice.choice("abc"), any_expression(choice, depth - 1))
    if word in ("negative", "not"):
        return (word, any_expression(choice, depth - 1))
    return (word, any_expression(choice, depth - 1), any_expression(choice, depth - 1))


def result_of(make):
    try:
        return make()
    except Fault as fault:
        return fault.reason


class AnyExpressionTest(Values):
    def test_many_expressions(self):
        choice = random.Random(21)
        seen = {}
        for _ in range(4000):
            expression = any_expression(choice, choice.randint(1, 5))
            locals_now = {"x": choice.randint(-2, 2), "y": choice.randint(-BIG, BIG)}
            found = result_of(lambda: evaluate(expression, locals_now, CELLS, MEMORY))
            self.assertEqual(found, result_of(lambda: simple_value(expression, locals_now)), expression)
            seen[found if isinstance(found, str) else "value"] = True
        self.assertEqual(sorted(seen), ["index", "range", "value", "zero"])


if __name__ == "__main__":
    unittest.main()
