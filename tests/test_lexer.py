import unittest

from handshaker.errors import TextError
from handshaker.lexer import tokens


def texts(line):
    return [(kind, text) for kind, text, _ in tokens(line, 1)]


class TokensTest(unittest.TestCase):
    def assert_error(self, line, column, reason, number=1):
        with self.assertRaises(TextError) as caught:
            tokens(line, number)
        error = caught.exception
        self.assertIs(error.__class__, TextError)
        self.assertEqual((error.line, error.column, error.reason), (number, column, reason), line)

    def test_a_line(self):
        found = tokens("  put a(x) = a + 10", 4)
        self.assertEqual(found, [
            ("word", "put", 3), ("word", "a", 7), ("sign", "(", 8), ("word", "x", 9), ("sign", ")", 10),
            ("sign", "=", 12), ("word", "a", 14), ("sign", "+", 16), ("number", "10", 18),
        ])
        self.assertIsInstance(found, list)
        self.assertTrue(all(isinstance(token, tuple) for token in found))

    def test_no_tokens(self):
        for line in ("", " ", "     "):
            self.assertEqual(tokens(line, 1), [])

    def test_each_sign(self):
        for sign in ("<=", ">=", "<", "=", ">", "+", "-", "*", "/", "(", ")"):
            self.assertEqual(tokens(sign, 1), [("sign", sign, 1)])
            self.assertEqual(tokens(" " + sign + " ", 1), [("sign", sign, 2)])

    def test_signs_beside_each_other(self):
        rows = (
            ("<=", ["<="]), ("< =", ["<", "="]), (">=", [">="]), ("> =", [">", "="]), ("=<", ["=", "<"]),
            ("=>", ["=", ">"]), ("<<=", ["<", "<="]), ("<==", ["<=", "="]), (">>=", [">", ">="]),
            ("<>", ["<", ">"]), ("==", ["=", "="]), ("--", ["-", "-"]), ("<=>=", ["<=", ">="]),
            ("(())", ["(", "(", ")", ")"]), ("*/", ["*", "/"]),
        )
        for line, signs in rows:
            self.assertEqual(texts(line), [("sign", sign) for sign in signs], line)

    def test_with_and_without_spaces(self):
        tight = texts("a+12<=b*(c-0)")
        self.assertEqual(tight, texts("a + 12 <= b * ( c - 0 )"))
        self.assertEqual(tight, texts("   a  +12<=   b*( c -0)   "))
        self.assertEqual([column for _, _, column in tokens("a+12<=b", 1)], [1, 2, 3, 5, 7])
        self.assertEqual([column for _, _, column in tokens(" a +12 <= b", 1)], [2, 4, 5, 8, 11])

    def test_words_beside_numbers(self):
        self.assertEqual(texts("12ab3"), [("number", "12"), ("word", "ab"), ("number", "3")])
        self.assertEqual(texts("0a0"), [("number", "0"), ("word", "a"), ("number", "0")])
        for letter in "abcdefghijklmnopqrstuvwxyz":
            self.assertEqual(texts("10" + letter), [("number", "10"), ("word", letter)])
        self.assertEqual(texts("ab cd"), [("word", "ab"), ("word", "cd")])
        self.assertEqual(texts("1 0"), [("number", "1"), ("number", "0")])

    def test_key_words_are_words(self):
        self.assertEqual(texts("end or rest"), [("word", "end"), ("word", "or"), ("word", "rest")])

    def test_length_of_words(self):
        self.assertEqual(texts("abcdefghijkl"), [("word", "abcdefghijkl")])
        self.assert_error("abcdefghijklm", 1, "word")
        self.assert_error("a abcdefghijklm b", 3, "word")
        self.assert_error("1zzzzzzzzzzzzz", 2, "word")
        self.assert_error("z" * 20000, 1, "word")
        self.assertEqual(len(tokens("abcdefghijkl1abcdefghijkl", 1)), 3)

    def test_leading_zeros(self):
        self.assertEqual(texts("0"), [("number", "0")])
        self.assertEqual(texts("10"), [("number", "10")])
        for line in ("00", "01", "000", "0123456789", "00000000000"):
            self.assert_error(line, 1, "number")
        self.assert_error("x = 007", 5, "number")
        self.assert_error("a0-01", 4, "number")

    def test_length_of_numbers(self):
        self.assertEqual(texts("1000000000"), [("number", "1000000000")])
        self.assertEqual(texts("999999999"), [("number", "999999999")])
        for line in ("1000000001", "9999999999", "10000000000", "1" * 11, "1" * 20000):
            self.assert_error(line, 1, "number")
        self.assert_error("-1000000001", 2, "number")
        self.assertEqual(texts("-1000000000"), [("sign", "-"), ("number", "1000000000")])

    def test_characters_that_begin_no_token(self):
        for character in "AZ\t\n\r\v\f\\_.,;:!?&|^~#$@[]{}'\"`\x00\x7f\xa0\u00e9\u00df\u00e0\u0661\u00b2\u2028\u3000\uff21\uff11":
            with self.subTest(repr(character)):
                self.assert_error(character, 1, "character")
                self.assert_error("ab " + character, 4, "character")
                self.assert_error("1" + character + "1", 2, "character")
        self.assert_error("%", 1, "character")

    def test_a_word_ends_ahead_of_other_letters(self):
        self.assert_error("aB", 2, "character")
        self.assert_error("abcdefghijkl\u00e9", 13, "character")
        self.assert_error("abcdefghijklm\u00e9", 1, "word")

    def test_the_first_error_from_the_left(self):
        self.assert_error("A 01 abcdefghijklm", 1, "character")
        self.assert_error("01 abcdefghijklm A", 1, "number")
        self.assert_error("abcdefghijklm A 01", 1, "word")
        self.assert_error("x 01 abcdefghijklm A", 3, "number")
        self.assert_error("1000000001A", 1, "number")

    def test_the_number_of_the_line(self):
        for number in (1, 2, 77, 20000):
            self.assert_error("  A", 3, "character", number)
        self.assertEqual(tokens("a", 1), tokens("a", 99))

    def test_lists_are_new(self):
        tokens("a b", 1).append("c")
        self.assertEqual(len(tokens("a b", 1)), 2)


if __name__ == "__main__":
    unittest.main()
