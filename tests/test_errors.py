import unittest

from tests.any_values import nested, no_strings
from undername import errors
from undername.errors import (
    InvalidBound,
    InvalidCommand,
    InvalidLetters,
    InvalidMade,
    InvalidProgram,
    InvalidRow,
    InvalidZone,
    Mismatch,
    NoKey,
    NoName,
    NoRow,
    NoText,
    NoValue,
    UnderError,
)

WITHOUT_ARGUMENTS = [InvalidLetters, InvalidBound, InvalidCommand, Mismatch]
ARGUMENT_OF = [
    (InvalidMade, "at"),
    (InvalidZone, "at"),
    (InvalidRow, "word"),
    (InvalidProgram, "at"),
    (NoText, "value"),
    (NoValue, "value"),
    (NoName, "number"),
    (NoRow, "at"),
]
UNDER_ERRORS = WITHOUT_ARGUMENTS + [error for error, _ in ARGUMENT_OF]


class FamilyTest(unittest.TestCase):
    """[49]: which error is derived from which."""

    def test_under_error_is_a_value_error(self):
        self.assertEqual(UnderError.__bases__, (ValueError,))

    def test_each_error_is_a_direct_subclass(self):
        for error in UNDER_ERRORS:
            with self.subTest(error=error):
                self.assertEqual(error.__bases__, (UnderError,))

    def test_no_other_error_is_derived(self):
        self.assertEqual(set(UnderError.__subclasses__()), set(UNDER_ERRORS))
        for error in UNDER_ERRORS:
            with self.subTest(error=error):
                self.assertEqual(error.__subclasses__(), [])

    def test_no_key_is_a_key_error_alone(self):
        self.assertEqual(NoKey.__bases__, (KeyError,))
        self.assertFalse(issubclass(NoKey, UnderError))
        self.assertFalse(issubclass(NoKey, ValueError))

    def test_each_error_is_defined_in_its_module(self):
        for error in [UnderError, NoKey] + UNDER_ERRORS:
            with self.subTest(error=error):
                self.assertEqual(error.__module__, "undername.errors")
                self.assertIs(vars(errors)[error.__name__], error)


class ArgumentsTest(unittest.TestCase):
    """[49], [2]: the constructor arguments are kept, as they are."""

    def values(self):
        return no_strings() + ["", "ab", "\n", nested("a", 60), object(), {}]

    def test_arguments_are_the_very_objects(self):
        for error, word in ARGUMENT_OF + [(NoKey, "key")]:
            for value in self.values():
                with self.subTest(error=error):
                    self.assertIs(getattr(error(value), word), value)
                    self.assertIs(getattr(error(**{word: value}), word), value)

    def test_nothing_else_is_kept(self):
        for error, word in ARGUMENT_OF + [(NoKey, "key")]:
            with self.subTest(error=error):
                self.assertEqual(vars(error(3)), {word: 3})

    def test_arguments_are_not_changed(self):
        for error, word in ARGUMENT_OF + [(NoKey, "key")]:
            with self.subTest(error=error):
                value = ["a", ["b", None]]
                kept = error(value)
                self.assertEqual(value, ["a", ["b", None]])
                value.append(1)
                self.assertIs(getattr(kept, word), value)

    def test_arguments_are_needed(self):
        for error, word in ARGUMENT_OF + [(NoKey, "key")]:
            with self.subTest(error=error):
                with self.assertRaises(TypeError):
                    error()
                with self.assertRaises(TypeError):
                    error(**{word + "s": 1})

    def test_errors_without_arguments(self):
        for error in WITHOUT_ARGUMENTS:
            with self.subTest(error=error):
                self.assertEqual(vars(error()), {})


class RaisedTest(unittest.TestCase):
    """[49]: errors as callers catch them."""

    def test_caught_as_under_error_and_value_error(self):
        for base in (UnderError, ValueError):
            for error in WITHOUT_ARGUMENTS:
                with self.subTest(error=error), self.assertRaises(base):
                    raise error()
            for error, word in ARGUMENT_OF:
                with self.subTest(error=error):
                    with self.assertRaises(base) as caught:
                        raise error("x")
                    self.assertEqual(getattr(caught.exception, word), "x")

    def test_no_key_is_caught_as_key_error(self):
        with self.assertRaises(KeyError) as caught:
            raise NoKey([1])
        self.assertEqual(caught.exception.key, [1])

    def test_each_of_two_raised_errors_keeps_its_own(self):
        one, other = NoText(1), NoText(2)
        self.assertEqual((one.value, other.value), (1, 2))


if __name__ == "__main__":
    unittest.main()
