import unittest

from handshaker import library
from handshaker.reader import read_program
from handshaker.syntax import is_let_by, same_program
from handshaker.writer import write_program

HEAD = "cell a = 1\ncell b 3 = 0\nsemaphore s 1\nbarrier w 3\nchannel m 2\nexchange e\n"
CELLS = [("a", 1, 1), ("b", 3, 0), ("s", 1, 1), ("w", 2, 0), ("m", 4, 0), ("e", 3, 0)]
LOCALS = "thread ann\nlocal x = 0\nlocal y = -4\n"
X = ("local", "x")
Y = ("local", "y")
A = ("cell", "a", ("number", 0))


def number(value):
    return ("number", value)


def body_of(*lines):
    """The statements of a thread with these lines."""
    return read_program(HEAD + LOCALS + "\n".join(lines) + "\nend\n").threads[0].body


def inner_of(*lines):
    """The statements of a block with these lines."""
    ((word, limit, body, late),) = body_of("atomic", *lines, "end")
    assert (word, limit, late) == ("block", None, [])
    return body


def expression_of(text):
    """The expression with this text, in a block."""
    ((_, expression),) = inner_of("later " + text)
    return expression


class LinesTest(unittest.TestCase):
    """For each kind of line: what it gives, what is written of that, and reading this again."""

    def assert_reads(self, text, cells, threads, written):
        program = read_program(text)
        self.assertEqual(program.cells, cells)
        found = [(thread.name, thread.variables, thread.body) for thread in program.threads]
        self.assertEqual(found, threads)
        self.assertIs(is_let_by(program), True)
        self.assertEqual(write_program(program), written)
        self.assertIs(same_program(read_program(written), program), True)

    def assert_body(self, lines, body, written=None):
        """The lines stand in a thread, those that are written likewise, with the indents of its body."""
        written = ["  " + line for line in (lines if written is None else written)]
        head = [f"cell {name} = {first}" if size == 1 else f"cell {name} {size} = {first}"
                for name, size, first in CELLS] + ["thread ann", "  local x = 0", "  local y = -4"]
        text = HEAD + LOCALS + "".join(line + "\n" for line in lines) + "end\n"
        threads = [("ann", [("x", 0), ("y", -4)], body)]
        self.assert_reads(text, CELLS, threads, "".join(line + "\n" for line in head + written + ["end"]))

    def assert_inner(self, lines, body, written=None):
        """The lines stand in a block."""
        written = ["  " + line for line in (lines if written is None else written)]
        self.assert_body(["atomic", *lines, "end"], [("block", None, body, [])], ["atomic", *written, "end"])

    def test_cell(self):
        self.assert_reads("cell a = 5\nthread t\nend", [("a", 1, 5)], [("t", [], [])],
                          "cell a = 5\nthread t\nend\n")
        self.assert_reads("cell a = -5\nthread t\nend", [("a", 1, -5)], [("t", [], [])],
                          "cell a = -5\nthread t\nend\n")
        self.assert_reads("cell a 3 = 7\ncell b=-1000000000\nthread t\nend", [("a", 3, 7), ("b", 1, -1000000000)],
                          [("t", [], [])], "cell a 3 = 7\ncell b = -1000000000\nthread t\nend\n")
        self.assert_reads("cell a 1 = - 0\nthread t\nend", [("a", 1, 0)], [("t", [], [])],
                          "cell a = 0\nthread t\nend\n")

    def test_cells_of_the_library(self):
        rows = (
            ("semaphore c 0", ("c", 1, 0), "cell c = 0"), ("semaphore c 1000", ("c", 1, 1000), "cell c = 1000"),
            ("barrier c 1", ("c", 2, 0), "cell c 2 = 0"), ("barrier c 6", ("c", 2, 0), "cell c 2 = 0"),
            ("channel c 1", ("c", 3, 0), "cell c 3 = 0"), ("channel c 10", ("c", 12, 0), "cell c 12 = 0"),
            ("exchange c", ("c", 3, 0), "cell c 3 = 0"),
        )
        for line, cell, written in rows:
            self.assert_reads(line + "\nthread t\nend\n", [cell], [("t", [], [])], written + "\nthread t\nend\n")

    def test_threads_and_locals(self):
        text = "thread ann\nlocal x = 3\nlocal y = -4\nsay x\nend\nthread bob\nlocal x = 0\nend\nthread x\nend\n"
        threads = [("ann", [("x", 3), ("y", -4)], [("say", X)]), ("bob", [("x", 0)], []), ("x", [], [])]
        written = ("thread ann\n  local x = 3\n  local y = -4\n  say x\nend\n"
                   "thread bob\n  local x = 0\nend\nthread x\nend\n")
        self.assert_reads(text, [], threads, written)

    def test_a_thread_may_have_the_name_of_a_cell_or_local(self):
        self.assert_reads("cell a = 0\nthread a\nlocal x = 0\nend\nthread x\nlocal x = 1\nend", [("a", 1, 0)],
                          [("a", [("x", 0)], []), ("x", [("x", 1)], [])],
                          "cell a = 0\nthread a\n  local x = 0\nend\nthread x\n  local x = 1\nend\n")

    def test_statements_of_a_thread(self):
        self.assert_body(["set x = y + 1"], [("set", "x", ("plus", Y, number(1)))])
        self.assert_body(["say x"], [("say", X)])
        self.assert_body(["pause 10"], [("pause", number(10))])
        self.assert_body(["if x", "  say 1", "end"], [("if", X, [("say", number(1))], [])])
        self.assert_body(["if x", "  say 1", "else", "  say 2", "end"],
                         [("if", X, [("say", number(1))], [("say", number(2))])])
        self.assert_body(["repeat 3", "  say 1", "end"], [("repeat", number(3), [("say", number(1))])])

    def test_empty_lists(self):
        self.assert_body(["if x", "end"], [("if", X, [], [])])
        self.assert_body(["if x", "else", "end"], [("if", X, [], [])], ["if x", "end"])
        self.assert_body(["if x", "else", "  say x", "end"], [("if", X, [], [("say", X)])])
        self.assert_body(["repeat x", "end"], [("repeat", X, [])])
        self.assert_body(["atomic", "end"], [("block", None, [], [])])
        self.assert_body(["atomic within x", "late", "end"], [("block", X, [], [])], ["atomic within x", "end"])
        self.assert_inner(["choose", "or", "end"], [("choose", [], [])])

    def test_blocks(self):
        self.assert_body(["atomic", "  retry", "end"], [("block", None, [("retry",)], [])])
        self.assert_body(["atomic within x * 2", "  retry", "end"],
                         [("block", ("times", X, number(2)), [("retry",)], [])])
        self.assert_body(["atomic within 5", "  retry", "late", "  say x", "end"],
                         [("block", number(5), [("retry",)], [("say", X)])])
        self.assert_body(["atomic within 5", "late", "  atomic", "    undo", "  end", "  pause 1", "end", "say 1"],
                         [("block", number(5), [], [("block", None, [("undo",)], []), ("pause", number(1))]),
                          ("say", number(1))])

    def test_statements_of_a_block(self):
        self.assert_inner(["set x = a"], [("set", "x", A)])
        self.assert_inner(["put a = x"], [("put", "a", number(0), X)])
        self.assert_inner(["put b(x + 1) = a"], [("put", "b", ("plus", X, number(1)), A)])
        self.assert_inner(["put b ( 0 ) = 2"], [("put", "b", number(0), number(2))], ["put b = 2"])
        self.assert_inner(["put b((1)) = (2)"], [("put", "b", number(1), number(2))], ["put b(1) = 2"])
        self.assert_inner(["later a"], [("later", A)])
        self.assert_inner(["retry"], [("retry",)])
        self.assert_inner(["undo"], [("undo",)])
        self.assert_inner(["if a", "  retry", "else", "  undo", "end"], [("if", A, [("retry",)], [("undo",)])])
        self.assert_inner(["repeat a", "  put a = a - 1", "end"],
                          [("repeat", A, [("put", "a", number(0), ("minus", A, number(1)))])])
        self.assert_inner(["choose", "  retry", "or", "  undo", "end"], [("choose", [("retry",)], [("undo",)])])

    def test_cells_of_the_library_are_cells(self):
        self.assert_inner(["put s = s + 1"], [("put", "s", number(0), ("plus", ("cell", "s", number(0)), number(1)))])
        self.assert_inner(["later m(3) + e + w(1)"], [("later", ("plus", (
            "plus", ("cell", "m", number(3)), ("cell", "e", number(0))), ("cell", "w", number(1))))],
            ["later (m(3) + e) + w(1)"])

    def test_statements_of_the_library(self):
        rows = (
            ("take s", library.take("s"),
             ["atomic", "  if s < 1", "    retry", "  end", "  put s = s - 1", "end"]),
            ("give s", library.give("s"), ["atomic", "  put s = s + 1", "end"]),
            ("meet w x", library.meet("w", 3, "x"), [
                "atomic", "  set x = w(1)", "  if (w + 1) = 3", "    put w = 0", "    put w(1) = w(1) + 1", "  else",
                "    put w = w + 1", "  end", "end", "atomic", "  if w(1) = x", "    retry", "  end", "end"]),
            ("send m x * 2", library.send("m", 2, ("times", X, number(2))), [
                "atomic", "  if m(3) = 2", "    retry", "  end", "  put m((m(2) + m(3)) rest 2) = x * 2",
                "  put m(3) = m(3) + 1", "end"]),
            ("receive m y", library.receive("m", 2, "y"), [
                "atomic", "  if m(3) = 0", "    retry", "  end", "  set y = m(m(2))",
                "  put m(2) = (m(2) + 1) rest 2", "  put m(3) = m(3) - 1", "end"]),
            ("swap e x y", library.swap("e", "x", "y"), [
                "atomic", "  if e = 2", "    retry", "  end", "  if e = 0", "    set y = 1", "    put e = 1",
                "    put e(1) = x", "  else", "    set y = 0", "    put e(2) = x", "    set x = e(1)", "    put e = 2",
                "  end", "end", "if y", "  atomic", "    if not (e = 2)", "      retry", "    end", "    set x = e(2)",
                "    put e = 0", "  end", "end"]),
        )
        for line, body, written in rows:
            self.assert_body([line], body, written)
            self.assert_body(["say 1", line, "say 2"], [("say", number(1)), *body, ("say", number(2))],
                             ["say 1", *written, "say 2"])
            inner = ["if x", "  say 1", "else", *["  " + one for one in written], "end"]
            self.assert_body(["if x", "say 1", "else", line, "end"], [("if", X, [("say", number(1))], body)], inner)

    def test_the_numbers_of_the_library(self):
        text = "barrier u 2\nbarrier w 6\nchannel m 1\nchannel k 4\nthread t\nlocal x = 0\n"
        text += "meet w x\nmeet u x\nsend k 1\nsend m 1\nreceive k x\nreceive m x\nend\n"
        expected = library.meet("w", 6, "x") + library.meet("u", 2, "x") + library.send("k", 4, number(1))
        expected += library.send("m", 1, number(1)) + library.receive("k", 4, "x") + library.receive("m", 1, "x")
        self.assertEqual(read_program(text).threads[0].body, expected)

    def test_swap_may_name_one_local_twice(self):
        self.assertEqual(body_of("swap e x x"), library.swap("e", "x", "x"))


class TextsTest(unittest.TestCase):
    def test_newlines_at_the_end(self):
        bare = read_program("cell a = 1\nthread t\nsay 1\nend")
        for text in ("cell a = 1\nthread t\nsay 1\nend\n", "cell a = 1\nthread t\nsay 1\nend\n\n\n",
                     "\n\ncell a = 1\n\nthread t\n   \nsay 1\n\nend\n  ", "  cell a=1\n thread   t\nsay 1  \n     end  "):
            self.assertIs(same_program(read_program(text), bare), True)

    def test_indents_do_not_matter(self):
        self.assertEqual(body_of("   if x", "say 1", "      else", " end"), [("if", X, [("say", number(1))], [])])

    def test_the_longest_texts(self):
        text = "thread t\nsay 1\nend"
        for padded in (text.ljust(20000), text + "\n" * (20000 - len(text)), " " * (20000 - len(text)) + text):
            self.assertEqual(len(padded), 20000)
            self.assertEqual(read_program(padded).threads[0].body, [("say", number(1))])

    def test_a_long_row_of_operators(self):
        many = (20000 - len("thread t\nsay 1\nend")) // 2
        text = "thread t\nsay 1" + "+1" * many + "\nend"
        self.assertGreater(len(text), 19990)
        program = read_program(text)
        expression = program.threads[0].body[0][1]
        depth = 0
        while expression[0] == "plus":
            self.assertEqual(expression[2], number(1))
            expression = expression[1]
            depth += 1
        self.assertEqual((depth, expression), (many, number(1)))
        self.assertIs(is_let_by(program), True)
        self.assertIs(same_program(program, read_program(text)), True)
        self.assertEqual(write_program(program).count("("), many - 1)

    def test_programs_are_new(self):
        text = HEAD + LOCALS + "if x\nsay 1\nend\nend\n"
        first, twin = read_program(text), read_program(text)
        first.cells.clear()
        first.threads[0].variables.clear()
        first.threads[0].body[0][2].clear()
        first.threads.clear()
        self.assertIs(same_program(twin, read_program(text)), True)
        self.assertEqual(twin.threads[0].body, [("if", X, [("say", number(1))], [])])


class ExpressionsTest(unittest.TestCase):
    def assert_same(self, text, other):
        self.assertEqual(expression_of(text), expression_of(other), text)

    def test_atoms(self):
        rows = (("5", number(5)), ("0", number(0)), ("x", X), ("a", A), ("b", ("cell", "b", number(0))),
                ("b(2)", ("cell", "b", number(2))), ("b ( a )", ("cell", "b", A)), ("(x)", X), ("((5))", number(5)),
                ("b(0)", ("cell", "b", number(0))), ("b(b(x))", ("cell", "b", ("cell", "b", X))))
        for text, expression in rows:
            self.assertEqual(expression_of(text), expression, text)

    def test_words_of_operators(self):
        rows = (("+", "plus"), ("-", "minus"), ("*", "times"), ("/", "over"), ("rest", "rest"), ("<", "less"),
                ("<=", "atmost"), ("=", "same"), ("and", "and"), ("or", "or"))
        for sign, word in rows:
            self.assertEqual(expression_of(f"x {sign} y"), (word, X, Y))
            self.assertEqual(expression_of(f"(x){sign}(y)"), (word, X, Y))

    def test_exchanged_sides(self):
        self.assertEqual(expression_of("x > y"), ("less", Y, X))
        self.assertEqual(expression_of("x >= y"), ("atmost", Y, X))
        self.assertEqual(expression_of("x + 1 > y * 2"), ("less", ("times", Y, number(2)), ("plus", X, number(1))))

    def test_grouping_to_the_left(self):
        rows = ((("+", "plus"), ("-", "minus")), (("*", "times"), ("/", "over"), ("rest", "rest")),
                (("and", "and"),), (("or", "or"),))
        for level in rows:
            for first, first_word in level:
                for second, second_word in level:
                    self.assertEqual(expression_of(f"x {first} y {second} 3"),
                                     (second_word, (first_word, X, Y), number(3)))
                    self.assertEqual(expression_of(f"x {first} (y {second} 3)"),
                                     (first_word, X, (second_word, Y, number(3))))

    def test_binding(self):
        levels = (("or",), ("and",), ("<", "<=", "=", ">", ">="), ("+", "-"), ("*", "/", "rest"))
        for loose_at, loose in enumerate(levels):
            for tight in levels[loose_at + 1:]:
                for one in loose:
                    for other in tight:
                        self.assert_same(f"x {one} y {other} 3", f"x {one} (y {other} 3)")
                        self.assert_same(f"x {other} y {one} 3", f"(x {other} y) {one} 3")

    def test_not(self):
        self.assertEqual(expression_of("not x"), ("not", X))
        self.assertEqual(expression_of("not not x"), ("not", ("not", X)))
        for sign in ("<", "=", ">=", "+", "-", "*", "/", "rest"):
            self.assert_same(f"not x {sign} y", f"not (x {sign} y)")
        for sign in ("and", "or"):
            self.assert_same(f"not x {sign} y", f"(not x) {sign} y")
            self.assert_same(f"x {sign} not y", f"x {sign} (not y)")

    def test_signs(self):
        self.assertEqual(expression_of("-x"), ("negative", X))
        self.assertEqual(expression_of("- - x"), ("negative", ("negative", X)))
        self.assertEqual(expression_of("-b(1)"), ("negative", ("cell", "b", number(1))))
        self.assertEqual(expression_of("-x * y"), ("times", ("negative", X), Y))
        self.assertEqual(expression_of("x * -y"), ("times", X, ("negative", Y)))
        self.assertEqual(expression_of("x - -y"), ("minus", X, ("negative", Y)))
        self.assertEqual(expression_of("not -x"), ("not", ("negative", X)))

    def test_numbers_below_zero(self):
        self.assertEqual(expression_of("-5"), number(-5))
        self.assertEqual(expression_of("- 5"), number(-5))
        self.assertEqual(expression_of("-0"), number(0))
        self.assertEqual(expression_of("-1000000000"), number(-1000000000))
        self.assertEqual(expression_of("--5"), ("negative", number(-5)))
        self.assertEqual(expression_of("x-5"), ("minus", X, number(5)))
        self.assertEqual(expression_of("x - -5"), ("minus", X, number(-5)))
        self.assertEqual(expression_of("-5 * x"), ("times", number(-5), X))
        self.assertEqual(expression_of("(-5)"), number(-5))

    def test_negative_of_a_number(self):
        self.assertEqual(expression_of("-(5)"), ("negative", number(5)))
        self.assertEqual(expression_of("-(-5)"), ("negative", number(-5)))

    def test_a_large_expression(self):
        found = expression_of("x + 1 < b(y * 2) and not a = -3 rest 2 or x >= 4")
        self.assertEqual(found, ("or", (
            "and",
            ("less", ("plus", X, number(1)), ("cell", "b", ("times", Y, number(2)))),
            ("not", ("same", A, ("rest", number(-3), number(2)))),
        ), ("atmost", number(4), X)))


if __name__ == "__main__":
    unittest.main()
