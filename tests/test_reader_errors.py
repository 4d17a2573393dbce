import unittest

from handshaker.errors import TextError, TooLarge
from handshaker.reader import read_program

HEAD = "cell a = 1\ncell b 3 = 0\nsemaphore s 1\nbarrier w 3\nchannel m 2\nexchange e\n"
LOCALS = "thread ann\nlocal x = 0\nlocal y = -4\n"


class Errors(unittest.TestCase):
    def assert_error(self, text, reason, line=None, column=None):
        """A text with a mark `@` ahead of the token of the error."""
        if line is None:
            ahead = text[:text.index("@")]
            self.assertEqual(text.count("@"), 1)
            line = ahead.count("\n") + 1
            column = len(ahead) - (ahead.rfind("\n") + 1) + 1
            text = text.replace("@", "")
        with self.assertRaises(TextError) as caught:
            read_program(text)
        error = caught.exception
        self.assertIs(error.__class__, TextError)
        self.assertEqual((error.line, error.column, error.reason), (line, column, reason), text)

    def assert_body(self, text, reason, rest="\nend\n"):
        """The text stands in a thread."""
        self.assert_error(HEAD + LOCALS + text + rest, reason)

    def assert_inner(self, text, reason, rest="\nend\nend\n"):
        """The text stands in a block."""
        self.assert_error(HEAD + LOCALS + "atomic\n" + text + rest, reason)

    def assert_expression(self, text, reason):
        for head in ("later ", "if ", "repeat ", "set x = ", "put a = ", "put b(1) = "):
            self.assert_inner(head + text, reason)


class TokensTest(Errors):
    def test_tokens(self):
        self.assert_error("thread @Ann\nend", "character")
        self.assert_error("@\tthread ann\nend", "character")
        self.assert_error("thread ann@\r\nend", "character")
        self.assert_error("@#\nthread ann\nend", "character")
        self.assert_error("thread @abcdefghijklm\nend", "word")
        self.assert_error("cell a = @01\nthread t\nend", "number")
        self.assert_error("cell a = @1000000001\nthread t\nend", "number")
        self.assert_error("cell a = -@1000000001\nthread t\nend", "number")
        self.assert_body("say x + @00", "number")
        self.assert_body("say 1\nsay 2 @%", "character")

    def test_the_tokens_of_a_line_are_read_first(self):
        self.assert_error("nonsense @A\n", "character")
        self.assert_error("cell cell cell @007", "number")
        self.assert_body("say z + z + @abcdefghijklm", "word")
        self.assert_body("end end @~", "character")
        self.assert_error("semaphore c 5000 @!", "character")

    def test_later_lines_are_read_later(self):
        self.assert_error("cell a 1@\ncell A = 1\n", "expected")
        self.assert_error("@what\nthread A\n", "line")
        self.assert_body("say @z\nsay A", "unknown")
        self.assert_body("say 1\nsay @A\nsay z", "character")


class LineTest(Errors):
    def test_ahead_of_the_threads(self):
        for word in ("local", "set", "say", "end", "if", "atomic", "put", "take", "else", "hello", "5", "(", "-"):
            self.assert_error("cell a = 1\n  @" + word + " a\nthread t\nend", "line")

    def test_behind_a_thread(self):
        for line in ("cell c = 1", "semaphore c 1", "barrier c 1", "channel c 1", "exchange c", "say 1", "end", "or"):
            self.assert_error("thread t\nend\n@" + line + "\n", "line")

    def test_in_a_thread(self):
        for line in ("cell c = 1", "semaphore c 1", "exchange c", "thread bob", "put a = 1", "later 1", "retry",
                     "undo", "choose", "else", "late", "or", "within 3", "hello", "17", "=", "x", "not x"):
            self.assert_body("@" + line, "line")
            self.assert_body("if x\n  @" + line.replace("else", "or"), "line")

    def test_locals_stand_ahead_of_the_statements(self):
        self.assert_body("local z = 0\nsay 1\n@local v = 0", "line")
        self.assert_body("if x\n@local z = 0", "line")
        self.assert_body("if x\nend\n@local z = 0", "line")
        self.assert_inner("@local z = 0", "line")
        self.assert_body("atomic within 1\nlate\n@local z = 0", "line")

    def test_in_a_block(self):
        for line in ("cell c = 1", "semaphore c 1", "thread bob", "local z = 1", "say 1", "pause 1", "atomic",
                     "take s", "give s", "meet w x", "send m 1", "receive m x", "swap e x y", "else", "late", "or"):
            self.assert_inner("@" + line, "line")
            self.assert_inner("choose\n@" + line.replace("or", "else"), "line")
            self.assert_inner("choose\nor\n@" + line, "line")
            self.assert_inner("repeat 1\n@" + line, "line")

    def test_the_late_list_is_one_of_a_thread(self):
        for line in ("put a = 1", "later 1", "retry", "undo", "choose", "late", "else", "or"):
            self.assert_body("atomic within 1\nlate\n@" + line, "line")

    def test_else(self):
        self.assert_body("if x\nelse\n@else", "line")
        self.assert_body("if x\nend\n@else", "line")
        self.assert_body("if x\nrepeat 1\n@else", "line")
        self.assert_body("repeat x\n@else", "line")
        self.assert_inner("if x\nelse\n@else", "line")
        self.assert_inner("choose\n@else", "line")

    def test_or(self):
        self.assert_inner("choose\nor\n@or", "line")
        self.assert_inner("choose\nif x\n@or", "line")
        self.assert_inner("choose\nor\nend\n@or", "line")
        self.assert_inner("if x\n@or", "line")

    def test_a_choose_needs_both_lists(self):
        self.assert_inner("choose\n@end", "line")
        self.assert_inner("choose\nretry\n@end", "line")
        self.assert_inner("choose\nor\nchoose\n@end", "line")

    def test_late_only_with_within(self):
        self.assert_body("atomic\n@late", "line")
        self.assert_body("atomic within 1\nlate\n@late", "line")
        self.assert_body("atomic within 1\nif x\n@late", "line")
        self.assert_body("atomic within 1\nlate\nif x\n@late", "line")
        self.assert_body("if x\n@late", "line")

    def test_the_first_token_comes_ahead_of_the_others(self):
        self.assert_body("@put z z z", "line")
        self.assert_inner("@say (", "line")
        self.assert_error("@z = = =\n", "line")


class ExpectedTest(Errors):
    def test_cells(self):
        for line in ("cell@", "cell   @", "cell @5", "cell @=", "cell @end = 1", "cell @swap = 1", "cell c@",
                     "cell c @c", "cell c @)", "cell c =@", "cell c = @x", "cell c = @=", "cell c = -@", "cell c = -@-1",
                     "cell c = 1 @2", "cell c = 1 @+ 1", "cell c 3@", "cell c 3 @3 = 1", "cell c - @= 1",
                     "cell c 3 = @(1)", "cell c @(3) = 1", "cell c = 1 @cell", "cell c 0@", "cell c 3 @- = 1"):
            self.assert_error(line + "\nthread t\nend\n", "expected")

    def test_cells_of_the_library(self):
        for word in ("semaphore", "barrier", "channel"):
            for rest in ("@", " @3", " @take 3", " c@", " c @= 3", " c @x", " c 3 @3", " c -@", " c @(3)", " c 3 @="):
                self.assert_error(word + rest + "\nthread t\nend\n", "expected")
        for rest in ("@", " @3", " @end", " c @3", " c @= 1", " c @c"):
            self.assert_error("exchange" + rest + "\nthread t\nend\n", "expected")

    def test_threads_and_locals(self):
        for line in ("thread@", "thread @1", "thread @thread", "thread t @t", "thread t @= 1"):
            self.assert_error(line + "\nend\n", "expected")
        for line in ("local@", "local @1", "local @set = 1", "local z@", "local z @1", "local z @3 = 1", "local z =@",
                     "local z = @y", "local z = 1 @1", "local z = -@", "local z = -@-1"):
            self.assert_error("thread t\n" + line + "\nend\n", "expected")

    def test_statements_of_a_thread(self):
        for line in ("set@", "set @1 = 1", "set @say = 1", "set x@", "set x @(1) = 1", "set x @x", "set x =@",
                     "set x = @=", "set x = 1 @x", "say@", "say   @", "say @end", "say @)", "say x @x", "say x @z",
                     "say x = @= x", "pause@", "pause 1 @1", "if@", "if x @then", "if x @else",
                     "repeat@", "repeat 1 @end", "atomic @x", "atomic @late", "atomic @end", "atomic within@",
                     "atomic within @)", "atomic within 1 @1"):
            self.assert_body(line, "expected")

    def test_lines_of_a_single_word(self):
        self.assert_body("if x\nelse @x\nend", "expected")
        self.assert_body("if x\nelse @if x\nend", "expected")
        self.assert_body("if x\nend @x", "expected")
        self.assert_body("end @end", "expected", "\n")
        self.assert_body("atomic within 1\nlate @x\nend", "expected")
        self.assert_inner("retry @x", "expected")
        self.assert_inner("undo @undo", "expected")
        self.assert_inner("choose @x", "expected")
        self.assert_inner("choose\nor @or", "expected")
        self.assert_inner("choose\nor\nend @end", "expected")

    def test_statements_of_a_block(self):
        for line in ("put@", "put @1 = 1", "put @retry = 1", "put a@", "put a @1", "put a @a = 1", "put a =@",
                     "put a = @=", "put a = 1 @1", "put a(@", "put a(@)", "put a(1@", "put a(1 = 1@", "put a(1)@",
                     "put a(1) @1", "put a(1) =@", "put a(1) @(1) = 1", "put a(1 @1) = 1", "later@", "later x @x"):
            self.assert_inner(line, "expected")

    def test_statements_of_the_library(self):
        for line in ("take@", "take @1", "take @end", "take s @s", "give@", "give @(s)", "give s @1", "meet@",
                     "meet w@", "meet w @1", "meet w @meet", "meet w x @y", "meet @3 x", "send@", "send m@",
                     "send m @=", "send m @)", "send m x @x", "send m 1 @m", "receive@", "receive m@", "receive m @1",
                     "receive m x @x", "swap@", "swap e@", "swap e x@", "swap e x @1", "swap e @1 x", "swap e x y @y"):
            self.assert_body(line, "expected")

    def test_expressions(self):
        for text in ("@", "@)", "@+", "@* x", "@/ 2", "@< 2", "@and x", "@or x", "@rest 2", "@end", "@= 1", "x +@",
                     "x + @+ x", "x + @not x", "x * @not x", "-@not x", "- @)", "-@", "not@", "not @)", "not @and x",
                     "x and@", "x and @and x", "x or@", "x < y @< 3", "x = y @= 3", "x >= y @<= 3", "x < @not y",
                     "(@", "(@)", "(x@", "(x @y)", "(x) @(y)", "(x = y @= 3)", "x @)",
                     "x @not", "1 @1", "1 @x", "x @1", "a @1", "a(@", "a(@)", "a(1@", "a(1) @(1)", "a(1 @2)", "1 @(x)",
                     "x -@", "x - -@", "x rest@", "x @z"):
            self.assert_expression(text, "expected")

    def test_behind_the_last_character_of_the_line(self):
        self.assert_body("say x +   @", "expected")
        self.assert_body("   set x   @", "expected")
        self.assert_error("cell a@", "expected")
        self.assert_error("thread@", "expected")


class NamesTest(Errors):
    def test_twice(self):
        self.assert_error("cell a = 1\ncell @a = 1\n", "twice")
        self.assert_error("cell a = 1\ncell b = 1\nsemaphore @a 1\n", "twice")
        for line in ("semaphore a 1", "barrier a 1", "channel a 1", "exchange a"):
            for again in ("cell @a = 1", "semaphore @a 1", "barrier @a 1", "channel @a 1", "exchange @a"):
                self.assert_error(line + "\n" + again + "\n", "twice")
        self.assert_error("thread t\nend\nthread u\nend\nthread @t\nend\n", "twice")
        self.assert_error("thread t\nlocal x = 0\nlocal @x = 0\n", "twice")
        self.assert_error("cell a = 0\nthread t\nlocal @a = 0\n", "twice")
        self.assert_error("exchange a\nthread t\nlocal x = 0\nlocal @a = 0\n", "twice")

    def test_twice_comes_as_soon_as_the_name_is_read(self):
        self.assert_error("cell a = 1\ncell @a\n", "twice")
        self.assert_error("cell a = 1\ncell @a = = =\n", "twice")
        self.assert_error("cell a = 1\nchannel @a 5000\n", "twice")
        self.assert_error("thread t\nend\nthread @t t\n", "twice")
        self.assert_error("cell a = 0\nthread t\nlocal @a b\n", "twice")

    def test_unknown_in_expressions(self):
        for text in ("@z", "x + @z", "@z(1)", "(@z)", "not @z", "-@z", "b(@z)", "x + @z + v", "@ann", "x * (y - @z",
                     "@z z", "@z )"):
            self.assert_expression(text, "unknown")
        for line in ("say @z", "pause @z", "if @z", "repeat @z", "atomic within @z", "set x = @z", "send m @z"):
            self.assert_body(line, "unknown")

    def test_unknown_in_statements(self):
        for line in ("set @z = 1", "set @z", "set @ann = 1", "take @z", "give @z z", "meet @z x", "meet @z",
                     "meet w @z", "send @z 1", "receive @z x", "receive m @z", "swap @z x y", "swap e @z y",
                     "swap e x @z", "swap e @z z", "take @ann"):
            self.assert_body(line, "unknown")
        for line in ("set @z = 1", "put @z = 1", "put @z(1) = 1", "put @z", "put b(@z) = 1", "put a = @z"):
            self.assert_inner(line, "unknown")

    def test_the_locals_of_another_thread_are_unknown(self):
        self.assert_error("thread t\nlocal x = 0\nend\nthread u\nlocal y = 0\nsay @x\nend\n", "unknown")
        self.assert_error("thread t\nlocal x = 0\nend\nthread u\nset @x = 0\nend\n", "unknown")

    def test_kind_of_locals(self):
        for line in ("set @a = 1", "set @a", "set @s = 1", "meet w @a", "meet w @w", "receive m @b", "swap e @a y",
                     "swap e x @a", "swap e @e x"):
            self.assert_body(line, "kind")
        self.assert_inner("set @a = 1", "kind")
        self.assert_inner("set @b(1) = 1", "kind")

    def test_kind_of_cells(self):
        self.assert_inner("put @x = 1", "kind")
        self.assert_inner("put @x(1) = 1", "kind")
        self.assert_inner("put @y", "kind")
        for text in ("@x(1)", "@x (1)", "1 + @x(", "b(@y(1))", "-@x(1)", "@x()"):
            self.assert_expression(text, "kind")
        self.assert_body("say @x(1)", "kind")
        self.assert_body("say @x((", "kind")

    def test_kind_of_the_cells_of_the_library(self):
        goods = {"take": "s", "give": "s", "meet": "w", "send": "m", "receive": "m", "swap": "e"}
        for word, good in goods.items():
            for name in "asbwmex":
                if name != good:
                    self.assert_body(f"{word} @{name} x", "kind")
                    self.assert_body(f"{word} @{name}", "kind")

    def test_outside(self):
        for line in ("say @a", "pause @a", "if @a", "repeat @a", "atomic within @a", "set x = @a", "send m @a",
                     "say @b(1)", "say x + @a", "say (x - @a", "say not @a z", "say -@a", "send m x + @m", "say @s",
                     "say @b(", "say @e)"):
            self.assert_body(line, "outside")
        self.assert_body("atomic within 1\nlate\nsay @a\nend", "outside")
        self.assert_body("atomic\nend\nsay @a", "outside")
        self.assert_body("if x\nelse\nsay @a\nend", "outside")

    def test_the_first_error_of_a_line(self):
        self.assert_body("say @z + a", "unknown")
        self.assert_body("say @a + z", "outside")
        self.assert_body("say x + @) + z", "expected")
        self.assert_body("set @a = z", "kind")
        self.assert_body("swap @z a a", "unknown")
        self.assert_body("swap e @a z", "kind")
        self.assert_inner("put @x = z", "kind")
        self.assert_inner("put a(@z = 1", "unknown")


class RangeTest(Errors):
    def test_numbers_outside_of_their_range(self):
        for line in ("semaphore c @1001", "semaphore c @-1", "semaphore c @- 1", "semaphore c @1000000000",
                     "barrier c @0", "barrier c @7", "barrier c @-1", "barrier c @-0", "channel c @0", "channel c @11",
                     "channel c @-10"):
            self.assert_error("cell a = 1\n" + line + "\nthread t\nend\n", "range")

    def test_a_minus_sign_and_zero(self):
        self.assertEqual(read_program("semaphore c -0\nthread t\nend").cells, [("c", 1, 0)])

    def test_range_comes_as_soon_as_the_number_is_read(self):
        self.assert_error("barrier c @7 7\n", "range")
        self.assert_error("semaphore c @- 1 =\n", "range")
        self.assert_error("cell a 24 = 0\nchannel c @11\n", "range")
        self.assert_error("cell a 24 = 0\nchannel c 10 @0\n", "expected")


class DeepTest(Errors):
    def assert_deep(self, head, opened, middle, closed, tail=""):
        """With 20 parts that are open at once the text is read, with 21 it is not."""
        read_program(HEAD + LOCALS + "atomic\n" + head + opened * 20 + middle + closed * 20 + tail + "\nend\nend\n")
        self.assert_inner(head + opened * 20 + "@" + opened + middle + closed * 21 + tail, "deep")
        self.assert_inner(head + opened * 20 + "@" + opened, "deep")

    def test_each_kind(self):
        for head in ("later ", "if 1 + x * ", "put b(1) = ", "put b(x) = (1) + "):
            tail = "\nend" if head.startswith("if") else ""
            self.assert_deep(head, "(", "x", ")", tail)
            self.assert_deep(head, "-", "x", "", tail)
        self.assert_deep("later ", "not ", "x", "")
        self.assert_deep("later x and ", "not ", "x", "")

    def test_parentheses_of_cells(self):
        read_program(HEAD + LOCALS + "atomic\nlater " + "a(" * 20 + "1" + ")" * 20 + "\nend\nend\n")
        self.assert_inner("later " + "a(" * 20 + "a@(1" + ")" * 21, "deep")

    def test_the_parenthesis_of_put(self):
        read_program(HEAD + LOCALS + "atomic\nput a(" + "(" * 19 + "1" + ")" * 19 + ") = 1\nend\nend\n")
        self.assert_inner("put a(" + "(" * 19 + "@(1" + ")" * 20 + ") = 1", "deep")
        read_program(HEAD + LOCALS + "atomic\nput a(1) = " + "(" * 20 + "1" + ")" * 20 + "\nend\nend\n")

    def test_mixed(self):
        mixed = "(not -a(" * 5
        closed = "))" * 5
        read_program(HEAD + LOCALS + "atomic\nlater " + mixed + "x" + closed + "\nend\nend\n")
        self.assert_inner("later " + mixed + "@(x)" + closed, "deep")
        self.assert_inner("later " + mixed + "@not x" + closed, "deep")
        self.assert_inner("later " + mixed + "@-x" + closed, "deep")
        self.assert_inner("later " + mixed + "a@(x)" + closed, "deep")
        self.assert_inner("later " + mixed + "@- -5" + closed, "deep")

    def test_what_is_closed_is_not_open(self):
        for text in ("+".join(["(x)"] * 50), "+".join(["-x"] * 50), " and ".join(["not x"] * 50),
                     "+".join(["b(x)"] * 50), "(" * 20 + "x" + ")" * 20 + "+" + "(" * 20 + "x" + ")" * 20,
                     "not " * 20 + "x and " + "not " * 20 + "x", "-" * 20 + "x*" + "-" * 20 + "x",
                     "not " * 20 + "x or (((x)))", "-" * 20 + "x + ((x))"):
            read_program(HEAD + LOCALS + "atomic\nlater " + text + "\nend\nend\n")
        self.assert_inner("later " + "(" * 19 + "(x) + (x) + (@(x))", "deep")

    def test_the_minus_sign_of_a_number_does_not_count(self):
        read_program(HEAD + LOCALS + "atomic\nlater " + "(" * 20 + "-5" + ")" * 20 + "\nend\nend\n")
        read_program(HEAD + LOCALS + "atomic\nlater " + "-" * 21 + "5" + "\nend\nend\n")
        self.assert_inner("later " + "-" * 20 + "@--5", "deep")
        self.assert_inner("later " + "(" * 20 + "@-(5)", "deep")

    def test_the_first_error_of_a_line(self):
        self.assert_inner("later " + "(" * 19 + "@z + (((((", "unknown")
        self.assert_inner("later " + "(" * 20 + "@(z", "deep")
        self.assert_inner("later " + "(" * 20 + "@x(1)", "kind")
        self.assert_inner("later " + "(" * 20 + "@)", "expected")
        self.assert_inner("later " + "(" * 20 + "@-", "deep")
        self.assert_body("say " + "(" * 20 + "@a(1)", "outside")
        self.assert_body("say x + " + "(" * 20 + "@(", "deep")


class LimitTest(Errors):
    def test_sizes(self):
        for line in ("cell c 0 = 1", "cell c -1 = 1", "cell c -0 = 1", "cell c 25 = 1", "cell c 1000000000 = 1"):
            self.assert_error("@" + line + "\nthread t\nend\n", "limit")
            self.assert_error("cell a = 0\n  @" + line + "\nthread t\nend\n", "limit")

    def test_sums_of_sizes(self):
        rows = (
            ("cell a 23 = 0", "cell b = 0", "cell b 2 = 0"), ("cell a 23 = 0", "semaphore b 1000", None),
            ("cell a 24 = 0", None, "semaphore b 0"), ("cell a 22 = 0", "barrier b 6", None),
            ("cell a 23 = 0", None, "barrier b 1"), ("cell a 21 = 0", "exchange b", None),
            ("cell a 22 = 0", None, "exchange b"), ("cell a 12 = 0", "channel b 10", None),
            ("cell a 13 = 0", None, "channel b 10"), ("cell a 21 = 0", "channel b 1", "channel b 2"),
            ("channel a 10", "channel b 10", None), ("channel a 10\nchannel b 10", None, "cell c = 0"),
        )
        for head, good, bad in rows:
            if good is not None:
                read_program(head + "\n" + good + "\nthread t\nend\n")
            if bad is not None:
                self.assert_error(head + "\n @" + bad + "\nthread t\nend\n", "limit")

    def test_threads(self):
        text = "".join(f"thread {name}\nend\n" for name in "abcdef")
        self.assertEqual(len(read_program(text).threads), 6)
        self.assert_error(text + "@thread g\nend\n", "limit")
        self.assert_error(text + "thread g @g\nend\n", "expected")
        self.assert_error(text + "thread @f\nend\n", "twice")

    def test_locals(self):
        text = "thread t\n" + "".join(f"local {name} = 0\n" for name in "abcdefghij")
        self.assertEqual(len(read_program(text + "end\n").threads[0].variables), 10)
        self.assert_error(text + "  @local k = 0\nend\n", "limit")
        self.assert_error(text + "  local @j = 0\nend\n", "twice")
        self.assert_error(text + "  local k =@\nend\n", "expected")
        again = text + "end\n" + text.replace("thread t", "thread u")
        self.assertEqual(len(read_program(again + "end\n").threads[1].variables), 10)
        self.assert_error(again + "@local k = 0\nend\n", "limit")

    def test_statements(self):
        head = HEAD + LOCALS
        lines = (("say 1", 1), ("set x = 1", 1), ("pause 1", 1), ("if x", 1), ("repeat 1", 1), ("atomic", 1),
                 ("atomic within 1", 1), ("take s", 4), ("give s", 2), ("meet w x", 9), ("send m 1", 5),
                 ("receive m x", 6), ("swap e x y", 17))
        for line, many in lines:
            closed = "\nend" if line.split()[0] in ("if", "repeat", "atomic") else ""
            read_program(head + "say 1\n" * (80 - many) + line + closed + "\nend\n")
            self.assert_error(head + "say 1\n" * (81 - many) + "@" + line + closed + "\nend\n", "limit")

    def test_statements_in_all_lists(self):
        text = "if x\n" + "say 1\n" * 20 + "else\n" + "say 2\n" * 20 + "end\natomic within 1\n" + "retry\n" * 18
        text += "choose\nundo\nor\nundo\nend\nlate\n" + "say 3\n" * 17
        self.assertEqual(len(read_program(HEAD + LOCALS + text + "end\nend\n").threads[0].body), 2)
        self.assert_body(text + "@say 3\nend", "limit")
        self.assert_body(text + "end\n@say 3", "limit")
        self.assert_body(text + "say @z\nend", "unknown")

    def test_else_or_late_and_end_count_nothing(self):
        text = "say 1\n" * 77
        read_program(HEAD + LOCALS + text + "if x\nelse\nend\natomic within 1\nlate\nsay 1\nend\nend\n")
        read_program(HEAD + LOCALS + text + "atomic\nchoose\nor\nretry\nend\nend\nend\n")

    def test_each_thread_counts_its_own_statements(self):
        text = "thread {}\n" + "say 1\n" * 80 + "end\n"
        program = read_program(text.format("a") + text.format("b"))
        self.assertEqual([len(thread.body) for thread in program.threads], [80, 80])

    def test_lists_within_one_another(self):
        ifs = "if x\n" * 5
        read_program(HEAD + LOCALS + ifs + "say 1\n" + "end\n" * 5 + "end\n")
        for line in ("if x", "repeat 1", "atomic", "atomic within 1", "take s", "give s"):
            self.assert_body(ifs + " @" + line, "limit")
        self.assert_body("if x\nelse\n" * 5 + "@if x", "limit")
        self.assert_body("atomic within 1\nlate\n" * 5 + "@atomic", "limit")
        self.assert_inner("choose\n" * 4 + "@if x", "limit")
        self.assert_inner("choose\nor\n" * 4 + "@choose", "limit")
        self.assert_inner("if x\nelse\n" * 4 + "@choose", "limit")
        self.assert_body(ifs + "if @z", "unknown")

    def test_lists_of_the_library(self):
        rows = (("take s", 4), ("give s", 5), ("meet w x", 4), ("send m 1", 4), ("receive m x", 4), ("swap e x y", 3))
        for line, most in rows:
            lists = most - 1
            read_program(HEAD + LOCALS + "if x\n" * lists + line + "\n" + "end\n" * lists + "end\n")
            self.assert_body("if x\n" * (lists + 1) + "@" + line, "limit")
            self.assert_body("if x\nelse\n" * (lists + 1) + "@" + line, "limit")

    def test_lists_that_have_ended_do_not_count(self):
        text = ("if x\n" * 5 + "end\n" * 5) * 3
        self.assertEqual(len(read_program(HEAD + LOCALS + text + "end\n").threads[0].body), 3)
        self.assert_body(text + "if x\n" * 5 + "@if x", "limit")

    def test_repeats_within_one_another(self):
        good = ("repeat 1\nrepeat 1\nend\nend\nrepeat 1\nrepeat 1\nend\nrepeat 1\nend\nend",
                "repeat 1\natomic\nrepeat 1\nend\nend\nend", "atomic\nrepeat 1\nrepeat 1\nend\nend\nend")
        for text in good:
            read_program(HEAD + LOCALS + text + "\nend\n")
        for text in ("repeat 1\nrepeat 1\n@repeat 1", "repeat 1\nif x\nelse\nrepeat 1\nif x\n@repeat 1",
                     "repeat 1\natomic\nrepeat 1\nchoose\nor\n@repeat 1",
                     "repeat 1\natomic within 1\nlate\nrepeat 1\n@repeat 1"):
            self.assert_body(text, "limit")
        self.assert_body("repeat 1\nrepeat 1\nrepeat @z", "unknown")
        read_program(HEAD + LOCALS + "repeat 1\nrepeat 1\ntake s\nend\nend\nend\n")


class EndTest(Errors):
    def test_no_thread(self):
        self.assert_error("", "end", 1, 1)
        self.assert_error("\n", "end", 2, 1)
        self.assert_error("\n\n", "end", 3, 1)
        self.assert_error("  ", "end", 2, 1)
        self.assert_error("cell a = 1", "end", 2, 1)
        self.assert_error("cell a = 1\n", "end", 2, 1)
        self.assert_error("cell a = 1\n\n", "end", 3, 1)
        self.assert_error("cell a = 1\n  ", "end", 3, 1)

    def test_within_a_thread(self):
        for text in ("thread t", "thread t\nlocal x = 0", "thread t\nif 1\nend", "thread t\nif 1\nelse",
                     "thread t\natomic", "thread t\natomic within 1\nlate", "thread t\natomic\nchoose\nor",
                     "thread t\natomic\nchoose", "thread t\nend\nthread u", "thread t\nend\nthread u\nrepeat 1\nend"):
            many = text.count("\n") + 1
            self.assert_error(text, "end", many + 1, 1)
            self.assert_error(text + "\n", "end", many + 1, 1)
            self.assert_error(text + "\n\n", "end", many + 2, 1)
            self.assert_error(text + "\n ", "end", many + 2, 1)

    def test_an_earlier_error_comes_first(self):
        self.assert_error("thread t\nsay @z", "unknown")
        self.assert_error("thread@", "expected")


class TooLargeTest(Errors):
    def assert_too_large(self, text):
        with self.assertRaises(TooLarge) as caught:
            read_program(text)
        self.assertIs(caught.exception.__class__, TooLarge)
        self.assertEqual(caught.exception.limit, "text")

    def test_too_large(self):
        text = "thread t\nsay 1\nend"
        self.assert_too_large(text.ljust(20001))
        self.assert_too_large(text + "\n" * (20001 - len(text)))
        self.assert_too_large("A" * 20001)
        self.assert_too_large("\u00e9" * 20001)

    def test_just_not_too_large(self):
        self.assert_error("A" * 20000, "character", 1, 1)
        self.assert_error("a" * 20000, "word", 1, 1)
        self.assert_error("\u00e9" * 20000, "character", 1, 1)
        self.assert_error("\n" * 20000, "end", 20001, 1)
        self.assert_error(" " * 20000, "end", 2, 1)


if __name__ == "__main__":
    unittest.main()
