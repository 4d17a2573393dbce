import copy
import pickle
import unittest

from handshaker import errors

WITHOUT_ARGUMENTS = ("InvalidCount", "NotOwner", "InvalidVersion", "NotAtRest")
WITH_ONE = (
    ("TooLarge", "limit", "text"),
    ("Fault", "reason", "range"),
    ("ImpossibleStep", "step", "tick"),
    ("ImpossibleStep", "step", 3),
    ("UnknownThread", "thread", 7),
    ("InvalidLine", "line", "~" * 201),
    ("Refused", "reason", "word"),
)


class ErrorsTest(unittest.TestCase):
    def test_base_is_a_value_error(self):
        self.assertEqual(errors.HandshakerError.__bases__, (ValueError,))

    def test_each_stands_directly_below_the_base(self):
        names = [name for name, _, _ in WITH_ONE] + ["TextError", *WITHOUT_ARGUMENTS]
        for name in names:
            with self.subTest(name):
                self.assertEqual(getattr(errors, name).__bases__, (errors.HandshakerError,))

    def test_text_error(self):
        error = errors.TextError(3, 14, "expected")
        self.assertEqual((error.line, error.column, error.reason), (3, 14, "expected"))
        named = errors.TextError(line=1, column=2, reason="end")
        self.assertEqual((named.line, named.column, named.reason), (1, 2, "end"))

    def test_one_argument_is_the_attribute(self):
        for name, attribute, value in WITH_ONE:
            with self.subTest(name):
                kind = getattr(errors, name)
                self.assertEqual(getattr(kind(value), attribute), value)
                self.assertEqual(getattr(kind(**{attribute: value}), attribute), value)

    def test_without_arguments(self):
        for name in WITHOUT_ARGUMENTS:
            with self.subTest(name):
                self.assertIsInstance(getattr(errors, name)(), errors.HandshakerError)

    def test_wrong_numbers_of_arguments(self):
        for make in (lambda: errors.TextError(1, 2), lambda: errors.TooLarge(), lambda: errors.Fault("a", "b")):
            with self.assertRaises(TypeError):
                make()

    def test_errors_can_be_copied(self):
        error = errors.TextError(3, 14, "expected")
        for twin in (copy.copy(error), pickle.loads(pickle.dumps(error))):
            self.assertEqual((twin.line, twin.column, twin.reason), (3, 14, "expected"))


if __name__ == "__main__":
    unittest.main()
