import copy
import random
import unittest

from handshaker.library import give, meet, receive, send, swap, take
from handshaker.names import KEY_WORDS, is_name
from handshaker.syntax import Program, Thread, is_let_by, same_program
from tests.programs import Maker

BIG = 1000000000
ZERO = ("number", 0)
CELLS = [("a", 1, 5), ("b", 3, 0)]
VARIABLES = [("x", 0), ("y", -1)]
ALL_KEY_WORDS = (
    "cell thread local set put say later pause if else end repeat atomic within late choose or and not rest retry "
    "undo semaphore barrier channel exchange take give meet send receive swap").split()


def with_body(body, variables=VARIABLES, cells=CELLS):
    return Program(cells, [Thread("ann", variables, body)])


def block(body, limit=None, late=()):
    return ("block", limit, body, list(late))


def say(expression):
    return ("say", expression)


class NamesTest(unittest.TestCase):
    def test_names(self):
        for word in ("a", "z", "plus", "number", "abcdefghijkl", "ends", "nots", "block", "index", "pauses"):
            self.assertIs(is_name(word), True)

    def test_key_words(self):
        self.assertEqual(sorted(KEY_WORDS), sorted(ALL_KEY_WORDS))
        for word in ALL_KEY_WORDS:
            self.assertIs(is_name(word), False)

    def test_other_strings(self):
        for word in ("", "abcdefghijklm", "A", "aB", "a1", "1", "a b", " a", "a_", "\u00e9", "a\u00e9", "a-", "a\n"):
            self.assertIs(is_name(word), False, repr(word))


class ClassesTest(unittest.TestCase):
    def test_attributes(self):
        body = [say(ZERO)]
        thread = Thread("ann", [("x", 3)], body)
        self.assertEqual((thread.name, thread.variables, thread.body), ("ann", [("x", 3)], [say(ZERO)]))
        program = Program(CELLS, [thread])
        self.assertEqual(program.cells, CELLS)
        self.assertIs(program.threads[0], thread)

    def test_by_keyword(self):
        thread = Thread(name="ann", variables=[], body=[])
        program = Program(cells=[], threads=[thread])
        self.assertEqual((thread.name, thread.variables, program.cells, program.threads), ("ann", [], [], [thread]))

    def test_lists_are_copied(self):
        variables, body, cells = [("x", 0)], [say(ZERO)], [("a", 1, 0)]
        thread = Thread("ann", variables, body)
        threads = [thread]
        program = Program(cells, threads)
        for one in (variables, body, cells, threads):
            one.clear()
        self.assertEqual((thread.variables, thread.body), ([("x", 0)], [say(ZERO)]))
        self.assertEqual((program.cells, program.threads), ([("a", 1, 0)], [thread]))

    def test_lists_within_are_not_copied(self):
        inner = [say(ZERO)]
        thread = Thread("ann", [], [("repeat", ZERO, inner)])
        self.assertIs(thread.body[0][2], inner)


class SameProgramTest(unittest.TestCase):
    def make(self):
        body = [("if", ("local", "x"), [say(("plus", ZERO, ("local", "y")))], [block([("retry",)])])]
        return Program(CELLS, [Thread("ann", VARIABLES, body), Thread("bob", [], [])])

    def test_same(self):
        self.assertIs(same_program(self.make(), self.make()), True)
        one = self.make()
        self.assertIs(same_program(one, one), True)
        self.assertIs(same_program(one, copy.deepcopy(one)), True)

    def assert_other(self, change):
        other = copy.deepcopy(self.make())
        change(other)
        self.assertIs(same_program(self.make(), other), False)
        self.assertIs(same_program(other, self.make()), False)

    def test_other_cells(self):
        for cells in ([], CELLS[:1], CELLS[::-1], [("a", 1, 6), CELLS[1]], [("a", 2, 5), CELLS[1]],
                      [("c", 1, 5), CELLS[1]], CELLS + [("c", 1, 0)]):
            self.assert_other(lambda program: setattr(program, "cells", cells))

    def test_other_threads(self):
        self.assert_other(lambda program: program.threads.pop())
        self.assert_other(lambda program: program.threads.reverse())
        self.assert_other(lambda program: program.threads.append(Thread("c", [], [])))
        self.assert_other(lambda program: setattr(program.threads[1], "name", "bab"))
        self.assert_other(lambda program: setattr(program.threads[0], "variables", [("x", 0), ("y", -2)]))
        self.assert_other(lambda program: setattr(program.threads[0], "variables", [("y", -1), ("x", 0)]))
        self.assert_other(lambda program: program.threads[0].variables.pop())
        self.assert_other(lambda program: program.threads[1].body.append(say(ZERO)))

    def test_other_statements(self):
        self.assert_other(lambda program: program.threads[0].body.clear())
        self.assert_other(lambda program: program.threads[0].body[0][2].clear())
        self.assert_other(lambda program: program.threads[0].body[0][3].append(say(ZERO)))
        self.assert_other(lambda program: program.threads[0].body[0][3][0][2].append(("undo",)))

        def swap_lists(program):
            word, test, first, second = program.threads[0].body[0]
            program.threads[0].body[0] = (word, test, second, first)

        self.assert_other(swap_lists)

    def test_limit_none_is_not_an_expression(self):
        one, other = with_body([block([])]), with_body([block([], ZERO)])
        self.assertIs(same_program(one, other), False)
        self.assertIs(same_program(other, one), False)

    def test_deep_expressions(self):
        def deep(last, many=30000):
            expression = last
            for _ in range(many):
                expression = ("plus", expression, ("number", 1))
            return with_body([say(expression)])

        self.assertIs(same_program(deep(("number", 1)), deep(("number", 1))), True)
        self.assertIs(same_program(deep(("number", 1)), deep(("number", 2))), False)
        self.assertIs(same_program(deep(("number", 1)), deep(("number", 1), 29999)), False)

    def test_arguments_stay(self):
        one, other = self.make(), with_body([say(ZERO)])
        before = copy.deepcopy((one.cells, one.threads[0].body, other.threads[0].body))
        same_program(one, other)
        is_let_by(one)
        self.assertEqual((one.cells, one.threads[0].body, other.threads[0].body), before)


class LetByTest(unittest.TestCase):
    def assert_let_by(self, program):
        self.assertIs(is_let_by(program), True)

    def assert_not_let_by(self, program):
        self.assertIs(is_let_by(program), False)

    def test_plain_programs(self):
        self.assert_let_by(Program([], [Thread("a", [], [])]))
        self.assert_let_by(with_body([]))
        self.assert_let_by(with_body([
            ("set", "x", ("local", "y")), ("say", ("number", BIG)), ("pause", ("negative", ("local", "x"))),
            ("if", ("local", "x"), [("set", "y", ZERO)], [("say", ZERO)]), ("repeat", ("local", "y"), []),
            block([
                ("set", "x", ("cell", "a", ZERO)), ("put", "b", ("local", "x"), ("cell", "b", ("cell", "a", ZERO))),
                ("if", ("cell", "a", ZERO), [("retry",)], [("undo",)]), ("later", ("cell", "a", ZERO)),
                ("repeat", ("cell", "a", ZERO), [("put", "a", ZERO, ZERO)]),
                ("choose", [("put", "a", ZERO, ("local", "x"))], [("later", ("local", "y"))]),
            ], ("local", "x"), [say(("local", "x"))]),
        ]))

    def test_many_programs(self):
        for seed in range(300):
            self.assert_let_by(Maker(random.Random(seed)).program())

    def test_names_of_threads(self):
        for name in ("", "A", "end", "abcdefghijklm", "a1", "swap"):
            self.assert_not_let_by(Program([], [Thread(name, [], [])]))
        self.assert_not_let_by(Program([], [Thread("a", [], []), Thread("b", [], []), Thread("a", [], [])]))
        self.assert_let_by(Program(CELLS, [Thread("a", VARIABLES, []), Thread("x", VARIABLES, [])]))

    def test_names_of_cells(self):
        for name in ("", "A", "end", "abcdefghijklm", "a1", "swap"):
            self.assert_not_let_by(with_body([], [], [(name, 1, 0)]))
        self.assert_let_by(with_body([], [], [("abcdefghijkl", 1, 0)]))
        self.assert_not_let_by(with_body([], [], [("a", 1, 0), ("b", 1, 0), ("a", 1, 0)]))

    def test_names_of_locals(self):
        for name in ("", "A", "end", "abcdefghijklm", "a1", "swap"):
            self.assert_not_let_by(with_body([], [(name, 0)]))
        self.assert_let_by(with_body([], [("abcdefghijkl", 0)]))
        self.assert_not_let_by(with_body([], [("x", 0), ("y", 0), ("x", 0)]))
        self.assert_not_let_by(with_body([], [("x", 0), ("a", 0)]))
        self.assert_let_by(with_body([], [("ann", 0)]))

    def test_a_later_thread_counts_too(self):
        good = Thread("ann", VARIABLES, [])
        self.assert_let_by(Program(CELLS, [good, Thread("bob", [("x", 0)], [("set", "x", ZERO)])]))
        self.assert_not_let_by(Program(CELLS, [good, Thread("bob", [], [("set", "x", ZERO)])]))
        self.assert_not_let_by(Program(CELLS, [good, Thread("bob", [("a", 0)], [])]))
        self.assert_not_let_by(Program(CELLS, [good, Thread("bob", [("z", BIG + 1)], [])]))

    def test_sizes(self):
        for size in (0, -1, -30):
            self.assert_not_let_by(with_body([], [], [("a", size, 0)]))
            self.assert_not_let_by(with_body([], [], [("a", 2, 0), ("b", size, 0)]))
        self.assert_let_by(with_body([], [], [("a", 24, 0)]))
        self.assert_not_let_by(with_body([], [], [("a", 25, 0)]))
        self.assert_let_by(with_body([], [], [("a", 20, 0), ("b", 3, 0), ("c", 1, 0)]))
        self.assert_not_let_by(with_body([], [], [("a", 20, 0), ("b", 3, 0), ("c", 2, 0)]))
        self.assert_not_let_by(with_body([], [], [("a", 26, 0), ("b", -2, 0)]))
        self.assert_not_let_by(with_body([], [], [("a", BIG, 0)]))

    def test_first_values(self):
        for value in (BIG, -BIG, 0):
            self.assert_let_by(with_body([], [("x", value)], [("a", 1, value)]))
        for value in (BIG + 1, -BIG - 1):
            self.assert_not_let_by(with_body([], [], [("a", 1, value)]))
            self.assert_not_let_by(with_body([], [("x", value)]))

    def test_numbers_of_expressions(self):
        for value in (BIG, -BIG):
            self.assert_let_by(with_body([say(("not", ("number", value)))]))
        for value in (BIG + 1, -BIG - 1):
            self.assert_not_let_by(with_body([say(("not", ("number", value)))]))

    def places(self, expression, in_block):
        """Every place of a statement at which an expression can stand, in a block or outside."""
        if not in_block:
            return [
                [say(expression)], [("set", "x", expression)], [("pause", expression)],
                [("if", expression, [], [])], [("repeat", expression, [])], [block([], expression)],
                [say(("plus", ZERO, expression))], [say(("not", ("negative", expression)))],
                [("if", ZERO, [], [say(expression)])], [("if", ZERO, [say(expression)], [])],
                [("repeat", ZERO, [say(expression)])], [block([], ZERO, [say(expression)])],
            ]
        rows = [
            ("set", "x", expression), ("put", "a", expression, ZERO), ("put", "a", ZERO, expression),
            ("later", expression), ("if", expression, [], []), ("repeat", expression, []),
            ("if", ZERO, [("later", expression)], []), ("if", ZERO, [], [("later", expression)]),
            ("repeat", ZERO, [("later", expression)]), ("choose", [("later", expression)], []),
            ("choose", [], [("later", expression)]), ("later", ("cell", "b", expression)),
        ]
        return [[block([row])] for row in rows]

    def test_locals_are_those_of_the_thread(self):
        for in_block in (False, True):
            for body in self.places(("local", "x"), in_block):
                self.assert_let_by(with_body(body))
            for name in ("z", "a", "ann", "X"):
                for body in self.places(("local", name), in_block):
                    self.assert_not_let_by(with_body(body))
        for name in ("z", "a", ""):
            self.assert_not_let_by(with_body([("set", name, ZERO)]))
            self.assert_not_let_by(with_body([block([("set", name, ZERO)])]))

    def test_cells_are_those_of_the_program(self):
        for body in self.places(("cell", "b", ZERO), True):
            self.assert_let_by(with_body(body))
        for name in ("c", "x", "ann"):
            for body in self.places(("cell", name, ZERO), True):
                self.assert_not_let_by(with_body(body))
            self.assert_not_let_by(with_body([block([("put", name, ZERO, ZERO)])]))

    def test_cells_stand_within_the_bodies_of_blocks(self):
        for body in self.places(("cell", "a", ZERO), False):
            self.assert_not_let_by(with_body(body))

    def test_threads(self):
        for many, found in ((0, False), (1, True), (6, True), (7, False)):
            threads = [Thread("abcdefgh"[at], [], []) for at in range(many)]
            self.assertIs(is_let_by(Program([], threads)), found)

    def test_locals(self):
        for many, found in ((0, True), (10, True), (11, False)):
            variables = [("abcdefghijkl"[at], 0) for at in range(many)]
            self.assertIs(is_let_by(with_body([], variables, [])), found)

    def test_statements(self):
        for many, found in ((80, True), (81, False)):
            flat = [say(ZERO)] * many
            self.assertIs(is_let_by(with_body(flat)), found)
            rest = many - 5
            nested = [("if", ZERO, [say(ZERO)], [say(ZERO)]), block([("retry",)])] + [say(ZERO)] * rest
            self.assertIs(is_let_by(with_body(nested)), found)
            late = [block([("choose", [("undo",)] * 20, [("retry",)] * 20)], ZERO, [say(ZERO)] * (many - 42))]
            self.assertIs(is_let_by(with_body(late)), found)
        two = [Thread("a", [], [say(ZERO)] * 80), Thread("b", [], [say(ZERO)] * 80)]
        self.assert_let_by(Program([], two))

    def test_statements_of_the_library(self):
        rows = ((take("a"), 4), (give("a"), 2), (meet("b", 2, "x"), 9), (send("b", 1, ZERO), 5),
                (receive("b", 1, "x"), 6), (swap("b", "x", "y"), 17))
        for statements, many in rows:
            self.assert_let_by(with_body([say(ZERO)] * (80 - many) + statements))
            self.assert_not_let_by(with_body([say(ZERO)] * (81 - many) + statements))

    def nested(self, wrap, many, inner=()):
        body = list(inner)
        for _ in range(many):
            body = [wrap(body)]
        return body

    def test_lists_within_one_another(self):
        wraps = (
            lambda body: ("if", ZERO, body, []), lambda body: ("if", ZERO, [], body),
            lambda body: block([], ZERO, body),
        )
        for wrap in wraps:
            self.assert_let_by(with_body(self.nested(wrap, 5)))
            self.assert_let_by(with_body(self.nested(wrap, 5, [say(ZERO)])))
            self.assert_not_let_by(with_body(self.nested(wrap, 6)))
        inner_wraps = (
            lambda body: ("if", ZERO, body, []), lambda body: ("choose", body, []), lambda body: ("choose", [], body),
        )
        for wrap in inner_wraps:
            self.assert_let_by(with_body([block(self.nested(wrap, 4))]))
            self.assert_not_let_by(with_body([block(self.nested(wrap, 5))]))
            late = [block([], ZERO, [block(self.nested(wrap, 4))])]
            self.assert_not_let_by(with_body(late))
        self.assert_not_let_by(with_body(self.nested(wraps[0], 2000)))

    def test_an_empty_list_counts(self):
        five = self.nested(lambda body: ("if", ZERO, body, []), 4, [("if", ZERO, [], [])])
        six = self.nested(lambda body: ("if", ZERO, body, []), 5, [("if", ZERO, [], [])])
        self.assert_let_by(with_body(five))
        self.assert_not_let_by(with_body(six))

    def test_repeats_within_one_another(self):
        def repeat(body):
            return ("repeat", ZERO, body)

        self.assert_let_by(with_body([repeat([repeat([])]), repeat([repeat([]), repeat([])])]))
        self.assert_not_let_by(with_body([repeat([repeat([repeat([])])])]))
        self.assert_let_by(with_body([repeat([block([repeat([])])])]))
        self.assert_not_let_by(with_body([repeat([block([repeat([repeat([])])])])]))
        self.assert_not_let_by(with_body([repeat([("if", ZERO, [], [repeat([repeat([])])])])]))
        self.assert_not_let_by(with_body([repeat([block([], ZERO, [repeat([repeat([])])])])]))

    def test_long_rows_of_operators(self):
        def chain(last):
            expression = last
            for _ in range(9000):
                expression = ("minus", expression, ("number", 1))
            return expression

        self.assert_let_by(with_body([say(chain(("local", "x")))]))
        self.assert_not_let_by(with_body([say(chain(("local", "z")))]))


if __name__ == "__main__":
    unittest.main()
