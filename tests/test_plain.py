import copy
import random
import unittest

from handshaker.plain import Outcome, run_block, same_outcome
from handshaker.values import first_memory
from tests.blocks import CELLS, LOCALS, MEMORY, body_of, both, expression_of
from tests.examples import run_example
from tests.programs import Maker

EXAMPLE = """
>>> from handshaker.plain import run_block
>>> a = ("cell", "a", ("number", 0))
>>> body = [("choose", [("put", "a", ("number", 0), ("number", 9)), ("retry",)], [("set", "x", a)])]
>>> outcome = run_block(body, cells, [("x", 1)], [5, 0, 0, 0])
>>> outcome.kind, outcome.reads, outcome.writes, outcome.finals
('done', {0: 5}, {}, [5])
>>> run_block([("if", a, [("retry",)], [])], cells, [], [5, 0, 0, 0]).kind
'retry'
"""
TOO_LARGE = ("number", 1000000001)


def outcome_with(**changed):
    parts = dict(kind="done", reads={0: 1}, writes={1: 2}, finals=[3], later=[4], reason=None)
    parts.update(changed)
    return Outcome(parts.pop("kind"), **parts)


class Blocks(unittest.TestCase):
    def outcome(self, text, locals_now=LOCALS, memory=MEMORY):
        return both(self, body_of(text), locals_now=locals_now, memory=memory)

    def assert_done(self, text, reads, writes, finals=(2, -1), later=()):
        outcome = self.outcome(text)
        found = (outcome.kind, outcome.reads, outcome.writes, outcome.finals, outcome.later, outcome.reason)
        self.assertEqual(found, ("done", reads, writes, list(finals), list(later), None), text)

    def assert_ends(self, kind, text, reads, reason=None):
        outcome = self.outcome(text)
        found = (outcome.kind, outcome.reads, outcome.writes, outcome.finals, outcome.later, outcome.reason)
        self.assertEqual(found, (kind, reads, {}, [2, -1], [], reason), text)

    def assert_fault(self, reason, text, reads):
        self.assert_ends("fault", text, reads, reason)


class ExampleTest(Blocks):
    def test_example(self):
        run_example(self, EXAMPLE, {"cells": [("a", 1, 5), ("b", 3, 0)]})


class OutcomeTest(unittest.TestCase):
    def test_attributes(self):
        outcome = Outcome("fault", reads={0: 1}, writes={1: 2}, finals=[3], later=[4], reason="zero")
        self.assertEqual(
            (outcome.kind, outcome.reads, outcome.writes, outcome.finals, outcome.later, outcome.reason),
            ("fault", {0: 1}, {1: 2}, [3], [4], "zero"))
        self.assertIsNone(Outcome("done", reads={}, writes={}, finals=[], later=[]).reason)

    def test_all_but_the_kind_is_passed_by_keyword(self):
        with self.assertRaises(TypeError):
            Outcome("done", {}, {}, [], [])

    def test_same_outcome(self):
        self.assertIs(same_outcome(outcome_with(), outcome_with()), True)
        changes = (
            {"kind": "retry"}, {"reads": {0: 2}}, {"reads": {}}, {"writes": {1: 3}}, {"writes": {2: 2}},
            {"finals": [4]}, {"finals": [3, 3]}, {"later": []}, {"later": [4, 4]}, {"reason": "zero"},
        )
        for changed in changes:
            self.assertIs(same_outcome(outcome_with(), outcome_with(**changed)), False, changed)
            self.assertIs(same_outcome(outcome_with(**changed), outcome_with(**changed)), True, changed)

    def test_same_outcome_whatever_the_order_of_the_cells(self):
        self.assertIs(same_outcome(outcome_with(reads={0: 1, 1: 2}), outcome_with(reads={1: 2, 0: 1})), True)


class StatementTest(Blocks):
    def test_nothing(self):
        self.assert_done("", {}, {})
        outcome = both(self, [], cells=[], locals_now=[], memory=[])
        self.assertEqual((outcome.kind, outcome.finals), ("done", []))

    def test_set(self):
        self.assert_done("set x = 7", {}, {}, (7, -1))
        self.assert_done("set y = x", {}, {}, (2, 2))
        self.assert_done("set x = x + 1\nset y = x * x\nset x = y - x", {}, {}, (6, 9))
        self.assert_done("set x = a", {0: 5}, {}, (5, -1))

    def test_put(self):
        self.assert_done("put a = 9", {}, {0: 9})
        self.assert_done("put b = x\nput b(2) = y", {}, {1: 2, 3: -1})
        self.assert_done("put b(2) = a + 1", {0: 5}, {3: 6})
        self.assert_done("put b(x - 1) = 4", {}, {2: 4})
        self.assert_done("put a = 1\nput a = 3", {}, {0: 3})
        self.assert_done("put a = a", {0: 5}, {0: 5})

    def test_a_cell_behind_its_own_put(self):
        self.assert_done("put a = 1\nput a = a + 1\nset x = a", {}, {0: 2}, (2, -1))
        self.assert_done("set x = a\nput a = 9\nset y = a", {0: 5}, {0: 9}, (5, 9))
        self.assert_done("put b(1) = 8\nset x = b\nset y = b(1)", {1: 10}, {2: 8}, (10, 8))
        self.assert_done("put b(1) = 2\nset x = b(b(1))", {3: 30}, {2: 2}, (30, -1))

    def test_a_cell_that_is_read_twice(self):
        self.assert_done("set x = a + a\nset y = a", {0: 5}, {}, (10, 5))

    def test_reads_in_an_index(self):
        self.assert_done("set x = b(a - 4)", {0: 5, 2: 20}, {}, (20, -1))
        self.assert_done("put b(b(0) - 9) = 3", {1: 10}, {2: 3})
        self.assert_done("put b(b(0) - 9) = b(b(1) - 18)", {1: 10, 2: 20, 3: 30}, {2: 30})

    def test_if(self):
        self.assert_done("if x\nset x = 7\nelse\nset y = 7\nend", {}, {}, (7, -1))
        self.assert_done("if x = 3\nset x = 7\nelse\nset y = 7\nend", {}, {}, (2, 7))
        self.assert_done("if a = 5\nset x = b\nend\nset y = 4", {0: 5, 1: 10}, {}, (10, 4))
        self.assert_done("if a < 5\nset x = b\nend\nset y = 4", {0: 5}, {}, (2, 4))
        self.assert_done("if -1\nelse\nset x = 1\nend", {}, {})
        self.assert_done("if 0\nelse\nset x = 1\nend", {}, {}, (1, -1))

    def test_repeat(self):
        for times in (0, 1, 2, 19, 20):
            self.assert_done(f"repeat {times}\nset x = x + 3\nlater x\nend", {}, {}, (2 + 3 * times, -1),
                             [2 + 3 * (k + 1) for k in range(times)])
        for times in ("-1", "21", "-1000000000", "1000000000", "a + 16"):
            reads = {0: 5} if "a" in times else {}
            self.assert_fault("count", f"set x = 1\nrepeat {times}\nset x = b\nend", reads)

    def test_the_count_is_evaluated_once(self):
        self.assert_done("repeat x\nset x = x + 1\nend", {}, {}, (4, -1))
        self.assert_done("repeat a\nput a = a + 1\nend", {0: 5}, {0: 10})
        self.assert_done("repeat x\nset x = 0\nset y = y + 1\nend", {}, {}, (0, 1))

    def test_repeats_within_one_another(self):
        self.assert_done("repeat 3\nrepeat x\nset y = y + 1\nend\nset x = x + 1\nend", {}, {}, (5, 8))
        self.assert_done("repeat 20\nrepeat 20\nset y = y + 1\nend\nend", {}, {}, (2, 399))
        self.assert_done("repeat 2\nset y = y + 1\nend\nrepeat 3\nset x = x + 1\nend", {}, {}, (5, 1))

    def test_later(self):
        self.assert_done("later x\nset x = 9\nlater x\nlater a", {0: 5}, {}, (9, -1), [2, 9, 5])

    def test_retry_and_undo(self):
        for word in ("retry", "undo"):
            self.assert_ends(word, word, {})
            self.assert_ends(word, f"set x = a\nput a = 1\nlater 3\n{word}\nset y = b", {0: 5})
            self.assert_ends(word, f"if a\nif b\n{word}\nend\nend\nset y = b(2)", {0: 5, 1: 10})
            self.assert_ends(word, f"repeat 3\nset x = x + 1\nif x = 4\n{word}\nend\nend", {})


class ChooseTest(Blocks):
    def test_the_first_list_alone(self):
        self.assert_done("choose\nset x = a\nput a = 1\nlater 3\nor\nset y = b\nend\nlater 4",
                         {0: 5}, {0: 1}, (5, -1), [3, 4])
        self.assert_done("choose\nor\nset x = a\nend", {}, {})

    def test_what_is_put_back(self):
        first = "set x = a\nput a = 1\nput b(2) = 7\nlater 3\nretry"
        self.assert_done(f"choose\n{first}\nor\nend", {0: 5}, {})
        self.assert_done(f"choose\n{first}\nor\nset y = a\nlater b(2)\nend", {0: 5, 3: 30}, {}, (2, 5), [30])
        self.assert_done(f"set x = 8\nput a = 4\nlater 6\nchoose\n{first}\nor\nset y = a\nend",
                         {}, {0: 4}, (8, 4), [6])

    def test_a_retry_in_the_second_list(self):
        text = "set x = 1\nlater 2\nchoose\nset y = a\nretry\nor\nset y = b\nretry\nend"
        self.assert_ends("retry", text, {0: 5, 1: 10})
        self.assert_ends("undo", "choose\nset y = a\nretry\nor\nset y = b\nundo\nend", {0: 5, 1: 10})
        self.assert_fault("zero", "choose\nset y = a\nretry\nor\nput b = 1 / 0\nend", {0: 5})

    def test_undo_and_faults_in_the_first_list(self):
        self.assert_ends("undo", "choose\nset y = a\nundo\nor\nset y = b\nend", {0: 5})
        self.assert_fault("zero", "choose\nput a = 1\nset y = b / 0\nor\nset y = b(2)\nend", {1: 10})
        self.assert_fault("count", "choose\nrepeat 21\nend\nor\nend", {})

    def test_a_retry_behind_a_choose(self):
        self.assert_ends("retry", "choose\nset x = a\nor\nset x = b\nend\nretry", {0: 5})

    def test_inner_choose(self):
        inner = "choose\nset x = 3\n{}\nor\nset y = x\n{}\nend"
        outer = "put a = 6\nchoose\nput a = 7\n{}\nlater a\nor\nlater x + y\nend"
        rows = (("", "", (3, -1), [7], 7), ("retry", "", (2, 2), [7], 7), ("retry", "retry", (2, -1), [1], 6))
        for first, second, finals, later, a in rows:
            self.assert_done(outer.format(inner.format(first, second)), {}, {0: a}, finals, later)

    def test_a_retry_behind_an_inner_choose(self):
        text = "choose\nchoose\nset x = 5\nor\nset x = 6\nend\nset y = 8\nretry\nor\nlater x\nend"
        self.assert_done(text, {}, {}, (2, -1), [2])

    def test_a_choose_in_a_second_list(self):
        text = "choose\nset x = 5\nretry\nor\nchoose\nset x = x + 1\nset y = a\nretry\nor\nset x = x + 10\nend\nend"
        self.assert_done(text, {0: 5}, {}, (12, -1))
        self.assert_ends("retry", "choose\nretry\nor\nchoose\nretry\nor\nset x = a\nretry\nend\nend", {0: 5})

    def test_a_retry_within_if_and_repeat(self):
        self.assert_done("choose\nset y = 3\nif a\nset y = 4\nretry\nend\nor\nset x = y\nend", {0: 5}, {}, (-1, -1))
        text = "choose\nrepeat 5\nput b = b + 1\nset x = x + 1\nif x = 4\nretry\nend\nend\nor\nset y = x + b\nend"
        self.assert_done(text, {1: 10}, {}, (2, 12))

    def test_a_choose_within_a_repeat(self):
        text = "repeat 4\nset x = x + 1\nchoose\nset y = x\nlater x\nif x rest 2\nretry\nend\nor\nlater -x\nend\nend"
        self.assert_done(text, {}, {}, (6, 6), [-3, 4, -5, 6])
        text = "repeat 3\nchoose\nrepeat 4\nset x = x + 1\nif x > 5\nretry\nend\nend\nor\nset y = y + 1\nend\nend"
        self.assert_done(text, {}, {}, (2, 2))


class FaultTest(Blocks):
    def test_index_zero_and_range(self):
        self.assert_fault("index", "set x = a\nput a = b(3)", {0: 5})
        self.assert_fault("index", "later 1\nset x = b(-1)", {})
        self.assert_fault("index", "set x = b(b(0))", {1: 10})
        self.assert_fault("zero", "set x = b / (a - 5)", {0: 5, 1: 10})
        self.assert_fault("zero", "later 1 rest 0", {})
        self.assert_fault("range", "set x = 1000000000\nset x = x + 1", {})
        self.assert_fault("range", "put a = 1000000000 * a", {0: 5})

    def test_the_first_fault_counts(self):
        self.assert_fault("zero", "set x = 1 / 0 + a", {})
        self.assert_fault("zero", "set x = a + 1 / 0 + b(3)", {0: 5})
        self.assert_fault("zero", "set x = b(1 / 0) + a", {})
        self.assert_fault("index", "set x = b(3) + a / 0", {})
        self.assert_fault("zero", "set x = a - -(b / 0) * b(2)", {0: 5, 1: 10})
        self.assert_fault("zero", "set x = not (1 / 0) and a", {})
        self.assert_fault("zero", "set x = 1 < 1 / 0 or a", {})

    def test_numbers_that_are_no_values(self):
        a = ("cell", "a", ("number", 0))
        rows = (
            ([("set", "x", TOO_LARGE)], {}), ([("set", "x", ("plus", TOO_LARGE, a))], {}),
            ([("set", "x", ("plus", a, TOO_LARGE))], {0: 5}), ([("set", "x", ("cell", "b", TOO_LARGE))], {}),
            ([("put", "b", TOO_LARGE, a)], {}), ([("put", "b", TOO_LARGE, ("number", 1))], {}),
            ([("repeat", TOO_LARGE, [])], {}), ([("if", TOO_LARGE, [], [])], {}), ([("later", TOO_LARGE)], {}),
            ([("set", "x", ("and", TOO_LARGE, a))], {}), ([("set", "x", ("or", ("number", 0), TOO_LARGE))], {}),
        )
        for body, reads in rows:
            outcome = both(self, body)
            self.assertEqual((outcome.kind, outcome.reason, outcome.reads), ("fault", "range", reads), body)
        outcome = both(self, [("set", "x", ("and", ("number", 0), ("plus", a, TOO_LARGE)))])
        self.assertEqual((outcome.kind, outcome.reads, outcome.finals), ("done", {}, [0, -1]))

    def test_put_looks_for_the_cell_behind_both_parts(self):
        self.assert_fault("index", "put b(3) = a", {0: 5})
        self.assert_fault("index", "put b(a) = b(0)", {0: 5, 1: 10})
        self.assert_fault("index", "put b(-1) = 1", {})
        self.assert_fault("index", "put a(1) = 1", {})
        self.assert_fault("zero", "put b(3) = 1 / 0", {})
        self.assert_fault("zero", "put b(a) = b / 0", {0: 5, 1: 10})
        self.assert_fault("zero", "put b(1 / 0) = a", {})
        self.assert_fault("zero", "put b(a / 0) = b", {0: 5})
        self.assert_fault("index", "put b(b(7)) = a", {})
        self.assert_fault("range", "put b(1000000000 + 1) = a", {})

    def test_faults_in_each_place(self):
        for text in ("if b / 0\nset x = 1\nend", "repeat b / 0\nend", "later b / 0", "set x = b / 0", "put a = b / 0",
                     "put b(b / 0) = 1"):
            self.assert_fault("zero", f"set x = a\nlater 3\nput a = 1\n{text}", {0: 5, 1: 10})
        self.assert_fault("zero", "repeat 3\nset x = x - 1\nset y = a / x\nend", {0: 5})


class AndOrTest(Blocks):
    def test_the_second_part_is_read_only_where_it_is_evaluated(self):
        rows = (
            ("0 and a", 0, {}), ("1 and a", 1, {0: 5}), ("0 or a", 1, {0: 5}), ("1 or a", 1, {}),
            ("x and b", 1, {1: 10}), ("x = 3 and b", 0, {}), ("x = 3 or a < 5", 0, {0: 5}), ("y or b(9)", 1, {}),
            ("a and b", 1, {0: 5, 1: 10}), ("a or b", 1, {0: 5}), ("a < 5 or b", 1, {0: 5, 1: 10}),
            ("a < 5 and b", 0, {0: 5}), ("a < 5 and b or b(1)", 1, {0: 5, 2: 20}),
            ("a and (b and b(1) = 0) or b(2)", 1, {0: 5, 1: 10, 2: 20, 3: 30}),
            ("0 and (a or b)", 0, {}), ("1 or a and b", 1, {}), ("not (a and 0) and b", 1, {0: 5, 1: 10}),
            ("b(x = 2 and a) + (y = 0 or b)", 21, {0: 5, 2: 20, 1: 10}), ("a and x and b", 1, {0: 5, 1: 10}),
            ("0 and 1 / 0", 0, {}), ("1 or 1 / 0", 1, {}), ("0 and a / 0", 0, {}), ("a or a / 0", 1, {0: 5}),
        )
        for text, value, reads in rows:
            self.assert_done(f"set x = {text}", reads, {}, (value, -1))
            self.assert_done(f"if {text}\nset y = 4\nend", reads, {}, (2, 4 if value else -1))
            if value <= 20:
                self.assert_done(f"repeat {text}\nset y = y + 1\nend", reads, {}, (2, value - 1))
            self.assert_done(f"later -({text})", reads, {}, (2, -1), [-value])
            self.assert_done(f"put b(0 * ({text})) = 1 + ({text})", reads, {1: 1 + value})

    def test_faults(self):
        self.assert_fault("zero", "set x = 1 and a / 0", {0: 5})
        self.assert_fault("index", "set x = 0 or b(a)", {0: 5})
        self.assert_fault("zero", "set x = 1 and 1 / 0 and a", {})


class DepthTest(Blocks):
    def test_lists_as_deep_as_they_may_stand_and_deeper(self):
        for depth in (3, 4, 5, 6, 40):
            for word, other in (("if", "retry"), ("choose", "undo")):
                body = [("set", "x", ("plus", ("local", "x"), ("cell", "a", ("number", 0))))]
                for _ in range(depth):
                    head = (word, expression_of("a")) if word == "if" else (word,)
                    body = [(*head, body, [(other,)])]
                outcome = both(self, body)
                self.assertEqual((outcome.kind, outcome.finals, outcome.reads), ("done", [7, -1], {0: 5}))

    def test_retries_through_many_chooses(self):
        body = [("retry",)]
        for value in range(30):
            body = [("choose", [("later", ("number", value)), *body], [("later", ("number", -1)), ("retry",)])]
        body[0][2].pop()
        outcome = both(self, body)
        self.assertEqual((outcome.kind, outcome.later), ("done", [-1]))

    def test_expressions_as_deep_as_they_may_be(self):
        self.assert_done(f"set x = {'(' * 20}a{')' * 20}\nset y = {'not ' * 20}a", {0: 5}, {}, (5, 1))
        self.assert_done(f"set x = {'(a + ' * 20}x{')' * 20}", {0: 5}, {}, (102, -1))
        self.assert_done(f"set x = {'(a and ' * 20}x{')' * 20}", {0: 5}, {}, (1, -1))
        self.assert_done(f"set x = {'(0 or -' * 10}a{')' * 10}", {0: 5}, {}, (1, -1))
        self.assert_fault("index", f"set x = {'b(' * 20}0{')' * 20}", {1: 10})
        self.assert_done(f"put b = 0\nput b(1) = 1\nset x = {'b(' * 20}1{')' * 20}", {}, {1: 0, 2: 1}, (1, -1))

    def test_rows_of_operators(self):
        many = 4000
        self.assert_done("set x = " + " + ".join(["a"] * many), {0: 5}, {}, (5 * many, -1))
        self.assert_done("set x = " + " + ".join(["x"] * many), {}, {}, (2 * many, -1))
        self.assert_done("set x = " + " and ".join(["a"] * (many // 2)), {0: 5}, {}, (1, -1))
        self.assert_done("if " + " or ".join(["0"] * (many // 2) + ["b(2)"]) + "\nset y = 1\nend", {3: 30}, {}, (2, 1))


class NewTest(Blocks):
    def test_what_is_returned_is_new(self):
        locals_now, memory = [("x", 2), ("y", -1)], list(MEMORY)
        for text in ("", "retry", "set x = 1 / 0", "put a = b\nlater 1"):
            body = body_of(text)
            first = run_block(body, CELLS, locals_now, memory)
            expected = copy.deepcopy(vars(first))
            for kept in (first.reads, first.writes):
                kept[77] = 1
            for kept in (first.finals, first.later):
                kept.append(77)
            self.assertEqual(vars(run_block(body, CELLS, locals_now, memory)), expected)
            self.assertEqual((locals_now, memory), ([("x", 2), ("y", -1)], MEMORY))

    def test_an_outcome_keeps_what_it_was_given(self):
        reads, writes, finals, later = {0: 1}, {1: 2}, [3], [4]
        outcome = Outcome("done", reads=reads, writes=writes, finals=finals, later=later)
        reads[5] = writes[5] = 5
        finals.append(5)
        later.append(5)
        self.assertEqual(vars(outcome), vars(outcome_with()))


class RandomTest(Blocks):
    def random_block(self, choice):
        maker = Maker(choice)
        names = maker.names(choice.randint(0, 4))
        maker.cells = [(name, choice.randint(1, 6), 0) for name in names]
        maker.variables = [(name, 0) for name in maker.names(choice.randint(0, 5)) if name not in names]
        maker.left = 20
        body = maker.statements(True, 1, 0)
        memory = [choice.choice((0, 1, 2, 3, -1, maker.number())) for _ in first_memory(maker.cells)]
        locals_now = [(name, choice.choice((0, 1, 2, maker.number()))) for name, _ in maker.variables]
        return body, maker.cells, locals_now, memory

    def test_walks_and_runs_have_the_same_outcomes(self):
        kinds = {}
        for seed in range(1000):
            outcome = both(self, *self.random_block(random.Random(seed)))
            kinds[outcome.kind, outcome.reason] = kinds.get((outcome.kind, outcome.reason), 0) + 1
        self.assertEqual(len(kinds), 7)
        self.assertGreater(min(kinds.values()), 20)

    def test_the_outcome_depends_on_the_reads_alone(self):
        for seed in range(500):
            choice = random.Random(seed)
            body, cells, locals_now, memory = self.random_block(choice)
            outcome = run_block(body, cells, locals_now, memory)
            for cell in range(len(memory)):
                if cell not in outcome.reads:
                    memory[cell] = choice.randint(-9, 9)
            self.assertIs(same_outcome(run_block(body, cells, locals_now, memory), outcome), True)


if __name__ == "__main__":
    unittest.main()
