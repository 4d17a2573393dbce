import random
import unittest

from handshaker.errors import TextError
from handshaker.reader import read_program
from handshaker.syntax import Program, Thread, same_program
from handshaker.writer import write_expression, write_program
from tests.examples import run_example
from tests.programs import Maker, WORDS_OF_TWO

EXAMPLE = r'''
>>> from handshaker.reader import read_program
>>> from handshaker.writer import write_program
>>> text = "cell a = 1\nthread ann\n  local x = 0\n  atomic\n    set x = a + 1\n    put a = x * (x - 2)\n  end\nend\n"
>>> program = read_program(text)
>>> program.cells, program.threads[0].variables, program.threads[0].body[0][2][0]
([('a', 1, 1)], [('x', 0)], ('set', 'x', ('plus', ('cell', 'a', ('number', 0)), ('number', 1))))
>>> write_program(program) == text
True
>>> read_program("thread ann\n  say a\nend")
raises TextError
'''
X = ("local", "x")
Y = ("local", "y")
A = ("cell", "a", ("number", 0))
SIGNS = ("+", "-", "*", "/", "rest", "<", "<=", "=", "and", "or")


def number(value):
    return ("number", value)


class ExampleTest(unittest.TestCase):
    def test_example(self):
        run_example(self, EXAMPLE)


class WriteExpressionTest(unittest.TestCase):
    def assert_written(self, expression, text):
        self.assertEqual(write_expression(expression), text)

    def test_without_operators(self):
        rows = ((number(0), "0"), (number(12), "12"), (number(1000000000), "1000000000"), (X, "x"), (A, "a"),
                (("cell", "a", number(1)), "a(1)"), (("cell", "a", X), "a(x)"), (("cell", "a", A), "a(a)"),
                (("cell", "a", ("cell", "b", number(2))), "a(b(2))"))
        for expression, text in rows:
            self.assert_written(expression, text)

    def test_a_number_below_zero_is_written_by_an_operator(self):
        self.assert_written(number(-5), "-5")
        self.assert_written(("plus", X, number(-5)), "x + (-5)")
        self.assert_written(("plus", number(0), number(-1)), "0 + (-1)")
        self.assert_written(("times", number(-5), number(5)), "(-5) * 5")
        self.assert_written(("not", number(-5)), "not (-5)")
        self.assert_written(("negative", number(-5)), "-(-5)")
        self.assert_written(("cell", "a", number(-1)), "a(-1)")

    def test_operators_of_two_parts(self):
        for word, sign in zip(WORDS_OF_TWO, SIGNS):
            self.assert_written((word, X, number(3)), f"x {sign} 3")
            self.assert_written((word, ("cell", "a", X), A), f"a(x) {sign} a")
            for inner, inner_sign in zip(WORDS_OF_TWO, SIGNS):
                self.assert_written((word, (inner, X, Y), number(1)), f"(x {inner_sign} y) {sign} 1")
                self.assert_written((word, number(1), (inner, X, Y)), f"1 {sign} (x {inner_sign} y)")
            self.assert_written(("cell", "a", (word, X, Y)), f"a(x {sign} y)")
            self.assert_written(("not", (word, X, Y)), f"not (x {sign} y)")
            self.assert_written(("negative", (word, X, Y)), f"-(x {sign} y)")
            self.assert_written((word, ("not", X), ("negative", Y)), f"(not x) {sign} (-y)")

    def test_not_and_negative(self):
        self.assert_written(("not", X), "not x")
        self.assert_written(("not", number(5)), "not 5")
        self.assert_written(("not", ("cell", "a", number(2))), "not a(2)")
        self.assert_written(("not", ("not", X)), "not (not x)")
        self.assert_written(("not", ("negative", X)), "not (-x)")
        self.assert_written(("negative", X), "-x")
        self.assert_written(("negative", ("cell", "a", X)), "-a(x)")
        self.assert_written(("negative", ("negative", X)), "-(-x)")
        self.assert_written(("negative", ("not", X)), "-(not x)")
        self.assert_written(("cell", "a", ("not", X)), "a(not x)")
        self.assert_written(("cell", "a", ("negative", X)), "a(-x)")

    def test_negative_of_a_number(self):
        self.assert_written(("negative", number(5)), "-(5)")
        self.assert_written(("negative", number(0)), "-(0)")
        self.assert_written(("negative", ("negative", number(5))), "-(-(5))")
        self.assert_written(("plus", ("negative", number(5)), X), "(-(5)) + x")

    def test_a_long_row_of_operators(self):
        expression = X
        for _ in range(20000):
            expression = ("plus", expression, number(1))
        self.assert_written(expression, "(" * 19999 + "x" + " + 1)" * 19999 + " + 1")


class WriteProgramTest(unittest.TestCase):
    def assert_written(self, program, lines):
        self.assertEqual(write_program(program), "".join(line + "\n" for line in lines))

    def body_lines(self, body):
        lines = write_program(Program([], [Thread("ann", [], body)])).split("\n")
        self.assertEqual((lines[0], lines[-2:]), ("thread ann", ["end", ""]))
        return lines[1:-2]

    def test_cells(self):
        cells = [("a", 1, 5), ("b", 3, 0), ("c", 2, -7), ("d", 1, -1000000000)]
        self.assert_written(Program(cells, [Thread("ann", [], [])]), [
            "cell a = 5", "cell b 3 = 0", "cell c 2 = -7", "cell d = -1000000000", "thread ann", "end",
        ])

    def test_threads(self):
        threads = [Thread("ann", [("x", 3), ("y", -4)], [("say", X)]), Thread("bob", [("z", 0)], [])]
        self.assert_written(Program([], threads), [
            "thread ann", "  local x = 3", "  local y = -4", "  say x", "end", "thread bob", "  local z = 0", "end",
        ])

    def test_simple_statements(self):
        body = [("set", "x", ("plus", X, number(1))), ("say", number(-3)), ("pause", ("not", X))]
        self.assertEqual(self.body_lines(body), ["  set x = x + 1", "  say -3", "  pause not x"])
        inner = [
            ("set", "x", A), ("put", "a", number(0), number(1)), ("put", "a", number(2), A),
            ("put", "a", ("plus", X, A), ("less", X, A)), ("put", "a", number(-1), number(-1)),
            ("put", "a", ("negative", number(0)), X), ("later", X), ("retry",), ("undo",),
        ]
        self.assertEqual(self.body_lines([("block", None, inner, [])]), [
            "  atomic", "    set x = a", "    put a = 1", "    put a(2) = a", "    put a(x + a) = x < a",
            "    put a(-1) = -1", "    put a(-(0)) = x", "    later x", "    retry", "    undo", "  end",
        ])

    def test_lists(self):
        say = [("say", X)]
        self.assertEqual(self.body_lines([("if", X, say, [])]), ["  if x", "    say x", "  end"])
        self.assertEqual(self.body_lines([("if", X, [], say)]), ["  if x", "  else", "    say x", "  end"])
        self.assertEqual(self.body_lines([("if", X, say, say)]), [
            "  if x", "    say x", "  else", "    say x", "  end"])
        self.assertEqual(self.body_lines([("if", X, [], [])]), ["  if x", "  end"])
        self.assertEqual(self.body_lines([("repeat", number(3), say)]), ["  repeat 3", "    say x", "  end"])
        self.assertEqual(self.body_lines([("repeat", number(3), [])]), ["  repeat 3", "  end"])

    def test_blocks(self):
        say = [("say", X)]
        self.assertEqual(self.body_lines([("block", None, [("undo",)], [])]), ["  atomic", "    undo", "  end"])
        self.assertEqual(self.body_lines([("block", None, [], [])]), ["  atomic", "  end"])
        limit = ("plus", X, number(1))
        self.assertEqual(self.body_lines([("block", limit, [("undo",)], [])]), [
            "  atomic within x + 1", "    undo", "  end"])
        self.assertEqual(self.body_lines([("block", number(0), [("undo",)], say)]), [
            "  atomic within 0", "    undo", "  late", "    say x", "  end"])

    def test_choose(self):
        def lines(first, second):
            return self.body_lines([("block", None, [("choose", first, second)], [])])[1:-1]

        self.assertEqual(lines([], []), ["    choose", "    or", "    end"])
        self.assertEqual(lines([("retry",)], [("undo",)]), [
            "    choose", "      retry", "    or", "      undo", "    end"])

    def test_lists_within_lists(self):
        body = [("repeat", X, [("if", Y, [("block", X, [("choose", [("if", A, [], [("undo",)])], [])], [])], [])])]
        self.assertEqual(self.body_lines(body), [
            "  repeat x", "    if y", "      atomic within x", "        choose", "          if a", "          else",
            "            undo", "          end", "        or", "        end", "      end", "    end", "  end",
        ])

    def test_arguments_stay(self):
        for seed in range(20):
            program = Maker(random.Random(seed)).program()
            twin = Maker(random.Random(seed)).program()
            write_program(program)
            self.assertTrue(same_program(program, twin))


class ReadWhatWasWrittenTest(unittest.TestCase):
    def test_many_programs(self):
        long = 0
        for seed in range(400):
            program = Maker(random.Random(seed)).program()
            text = write_program(program)
            if len(text) > 20000:
                long += 1
                continue
            again = read_program(text)
            self.assertTrue(same_program(program, again), text)
            self.assertEqual(write_program(again), text)
        self.assertLess(long, 40)

    def test_only_too_deep_expressions_cannot_be_read(self):
        for many, can_be_read in ((21, True), (22, False)):
            expression = X
            for _ in range(many):
                expression = ("plus", expression, number(1))
            text = write_program(Program([], [Thread("ann", [("x", 0)], [("say", expression)])]))
            if can_be_read:
                self.assertEqual(read_program(text).threads[0].body, [("say", expression)])
            else:
                with self.assertRaises(TextError) as caught:
                    read_program(text)
                self.assertEqual((caught.exception.line, caught.exception.reason), (3, "deep"))


if __name__ == "__main__":
    unittest.main()
