import unittest
from itertools import combinations

from tests.any_values import no_strings, texts_up_to
from undername.errors import InvalidLetters
from undername.texts import (
    check_letters,
    is_text,
    name_at,
    number_of,
    raised,
    room,
)

CHARACTERS = "-./0123456789_abcdefghijklmnopqrstuvwxyz"
SOME_LETTERS = ["ab", "-/0a", "./_", "xyz", "-.059", "0_az", "abcde"]


class CheckLettersTest(unittest.TestCase):
    """[4], [5]: which values are letters."""

    def test_every_pair_of_characters(self):
        self.assertEqual(list(CHARACTERS), sorted(CHARACTERS))
        for one, other in combinations(CHARACTERS, 2):
            self.assertIs(check_letters(one + other), True)
            self.assert_invalid(other + one)

    def test_two_to_five_letters(self):
        for size in (2, 3, 4, 5):
            self.assertIs(check_letters(CHARACTERS[:size]), True)
            self.assertIs(check_letters(CHARACTERS[-size:]), True)
        for letters in SOME_LETTERS:
            self.assertIs(check_letters(letters), True)

    def test_too_few_and_too_many_letters(self):
        for letters in ("", "a", "-", "abcdef", CHARACTERS[:6], CHARACTERS):
            self.assert_invalid(letters)

    def test_repeated_letters(self):
        for letters in ("aa", "aab", "abb", "abab", "abcdd", "aaaaa", "--"):
            self.assert_invalid(letters)

    def test_not_ascending_letters(self):
        for letters in ("ba", "acb", "bac", "a0", "a_", "_0", "0/", "/.", ".-", "abced"):
            self.assert_invalid(letters)

    def test_other_characters(self):
        ascii_characters = [chr(code) for code in range(128)]
        for one in ascii_characters:
            if one not in CHARACTERS:
                self.assert_invalid("".join(sorted("a" + one)))
                self.assert_invalid("".join(sorted("-" + one + "z")))
        # Characters that Python's isalpha, isdigit and the like allow, too.
        for letters in ("AB", "aB", "@a", "a~", "a\n", "ab\n", "a\u00e9", "1\u00b2", "a\u0660", "ab\ud800"):
            self.assert_invalid(letters)

    def test_values_of_other_kinds(self):
        for value in no_strings():
            self.assert_invalid(value)

    def test_the_very_error(self):
        with self.assertRaises(InvalidLetters) as caught:
            check_letters("ba")
        self.assertIs(type(caught.exception), InvalidLetters)

    def test_lists_are_not_changed(self):
        letters = ["a", "b"]
        self.assert_invalid(letters)
        self.assertEqual(letters, ["a", "b"])

    def test_long_strings(self):
        self.assert_invalid("a" * 2000)
        self.assert_invalid("ab" * 1000)

    def test_parameter_names(self):
        self.assertIs(check_letters(letters="ab"), True)

    def assert_invalid(self, letters):
        with self.subTest(letters=str(letters)[:40] if isinstance(letters, str) else "no string"):
            with self.assertRaises(InvalidLetters) as caught:
                check_letters(letters)
            self.assertIs(type(caught.exception), InvalidLetters)


class IsTextTest(unittest.TestCase):
    """[5]: which values are texts over letters."""

    def test_texts(self):
        for letters in SOME_LETTERS:
            for text in texts_up_to(letters, 3):
                self.assertIs(is_text(letters, text), True)
            self.assertIs(is_text(letters, letters[::-1] * 40), True)

    def test_the_empty_text(self):
        self.assertIs(is_text("ab", ""), True)

    def test_one_other_character(self):
        for letters in ("ab", "-/0a", "./_"):
            for code in range(128):
                other = chr(code)
                if other not in letters:
                    for text in (other, other + letters, letters + other, letters + other + letters):
                        self.assertIs(is_text(letters, text), False)

    def test_letters_within_the_letters_only(self):
        # A text is neither a part of the letters nor in their order.
        self.assertIs(is_text("abc", "ac"), True)
        self.assertIs(is_text("abc", "cba"), True)
        self.assertIs(is_text("ac", "abc"), False)
        self.assertIs(is_text("ab", "A"), False)
        self.assertIs(is_text("ab", "ab\n"), False)
        self.assertIs(is_text("ab", "@"), False)
        self.assertIs(is_text("ab", "!"), False)

    def test_values_of_other_kinds(self):
        for value in no_strings():
            self.assertIs(is_text("ab", value), False)

    def test_lists_are_not_changed(self):
        value = ["a", ["b"]]
        self.assertIs(is_text("ab", value), False)
        self.assertEqual(value, ["a", ["b"]])

    def test_long_texts(self):
        self.assertIs(is_text("ab", "ab" * 1000), True)
        self.assertIs(is_text("ab", "ab" * 1000 + "c"), False)

    def test_parameter_names(self):
        self.assertIs(is_text(letters="ab", value="ba"), True)


class RaisedTest(unittest.TestCase):
    """[6]: the least text greater than all with a beginning."""

    def test_example(self):
        self.assertEqual(raised("ab", "abb"), "b")

    def test_last_letter_is_not_the_greatest(self):
        self.assertEqual(raised("ab", "a"), "b")
        self.assertEqual(raised("ab", "ba"), "bb")
        self.assertEqual(raised("-/0a", "a-"), "a/")
        self.assertEqual(raised("-/0a", "a/"), "a0")
        self.assertEqual(raised("-/0a", "a0"), "aa")

    def test_greatest_letters_at_the_end(self):
        self.assertEqual(raised("ab", "ab"), "b")
        self.assertEqual(raised("ab", "babbb"), "bb")
        self.assertEqual(raised("abc", "cbcc"), "cc")
        self.assertEqual(raised("abc", "ccacc"), "ccb")

    def test_greatest_letters_alone_and_empty(self):
        for letters in SOME_LETTERS:
            for count in (0, 1, 2, 200):
                self.assertIsNone(raised(letters, letters[-1] * count))

    def test_long_texts(self):
        self.assertEqual(raised("ab", "a" + "b" * 199), "b")
        self.assertEqual(raised("ab", "b" * 199 + "a"), "b" * 200)

    def test_against_all_short_texts(self):
        for letters in ("ab", "-/0"):
            every = sorted(texts_up_to(letters, 4))
            for text in texts_up_to(letters, 3):
                # The least greater text is no longer than the text itself.
                greater = [
                    other for other in every
                    if other > text and not other.startswith(text)
                ]
                least = greater[0] if greater else None
                self.assertEqual(raised(letters, text), least)

    def test_parameter_names(self):
        self.assertEqual(raised(letters="ab", text="aa"), "ab")


class RoomTest(unittest.TestCase):
    """[7]: how many texts are between two."""

    def test_example(self):
        self.assertEqual(room("ab", "a", "aaaa"), 3)

    def test_equal_and_reversed(self):
        for low, high in (("", ""), ("a", "a"), ("b", "a"), ("a", ""), ("aa", "a"), ("b", "aaaa"), ("ab", "aab")):
            self.assertEqual(room("ab", low, high), 0)

    def test_least_letters_behind(self):
        for low in ("", "a", "b", "ab", "ba", "a" * 200):
            for added in (1, 2, 3, 200):
                self.assertEqual(room("ab", low, low + "a" * added), added)
        self.assertEqual(room("-/0a", "a", "a--"), 2)

    def test_no_end(self):
        for low in ("", "a", "b", "b" * 200):
            self.assertIsNone(room("ab", low, None))

    def test_endless(self):
        for low, high in (
            ("", "b"), ("", "ab"), ("a", "b"), ("a", "ab"), ("a", "aab"), ("a", "aba"),
            ("aa", "ab"), ("aaaa", "b"), ("ab", "b"), ("ab", "ba"), ("b", "bb"),
            ("a" * 200, "b"), ("a" * 199, "a" * 199 + "b"),
        ):
            self.assertIsNone(room("ab", low, high))
        self.assertIsNone(room("-/0a", "a", "a/"))

    def test_against_all_short_texts(self):
        for letters in ("ab", "-/0"):
            some = texts_up_to(letters, 3)
            shorter = texts_up_to(letters, 5)
            longer = texts_up_to(letters, 6)
            for low in some:
                for high in some:
                    # A room that grows with the length of the texts is endless.
                    many = len([text for text in shorter if low <= text < high])
                    more = len([text for text in longer if low <= text < high])
                    self.assertEqual(room(letters, low, high), many if many == more else None)

    def test_parameter_names(self):
        self.assertEqual(room(letters="ab", low="b", high="baa"), 2)


class NumbersTest(unittest.TestCase):
    """[8]: the numbers of names."""

    def test_example(self):
        self.assertEqual(name_at("ab", 5), "ba")

    def test_the_empty_name(self):
        for letters in SOME_LETTERS:
            self.assertEqual(number_of(letters, ""), 0)
            self.assertEqual(name_at(letters, 0), "")

    def test_ascending_names(self):
        for letters in SOME_LETTERS:
            for number, name in enumerate(texts_up_to(letters, 4)):
                self.assertEqual(number_of(letters, name), number)
                self.assertEqual(name_at(letters, number), name)

    def test_one_length_and_the_next(self):
        for letters in SOME_LETTERS:
            before = 0
            for length in range(1, 201):
                before += len(letters) ** (length - 1)
                self.assertEqual(number_of(letters, letters[0] * length), before)
                self.assertEqual(number_of(letters, letters[-1] * (length - 1)), before - 1)

    def test_names_beside_each_other(self):
        self.assertEqual(number_of("ab", "abb") + 1, number_of("ab", "baa"))
        self.assertEqual(number_of("-/0a", "aa") + 1, number_of("-/0a", "---"))
        self.assertEqual(name_at("-/0a", number_of("-/0a", "-a") + 1), "/-")

    def test_great_numbers(self):
        for letters in SOME_LETTERS:
            for number in (10**30, 10**30 - 1, 10**30 + 1, 2**99, 5**43, 7 * 10**29 + 12345):
                name = name_at(letters, number)
                self.assertTrue(is_text(letters, name))
                self.assertEqual(number_of(letters, name), number)
                after = name_at(letters, number + 1)
                self.assertLess((len(name), name), (len(after), after))

    def test_long_names(self):
        for letters in SOME_LETTERS:
            for name in (letters[0] * 200, letters[-1] * 200, (letters * 100)[:200], (letters[::-1] * 100)[:199]):
                self.assertEqual(name_at(letters, number_of(letters, name)), name)

    def test_order_is_not_that_of_strings(self):
        self.assertLess(number_of("ab", "b"), number_of("ab", "aa"))

    def test_same_results_again(self):
        first = [name_at("abc", number) for number in (0, 1, 10**30)]
        name_at("ab", 77)
        self.assertEqual([name_at("abc", number) for number in (0, 1, 10**30)], first)

    def test_parameter_names(self):
        self.assertEqual(number_of(letters="ab", name="ba"), 5)
        self.assertEqual(name_at(letters="ab", number=5), "ba")


if __name__ == "__main__":
    unittest.main()
