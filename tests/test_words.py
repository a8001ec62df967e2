import unittest

from tests.any_values import texts_up_to
from undername.words import root, same_words, shared


def slow_root(word):
    """The pair of [9], found by trying each length."""
    for size in range(1, len(word) + 1):
        if len(word) % size == 0 and word[:size] * (len(word) // size) == word:
            return word[:size], len(word) // size
    return None


def slow_shared(word, name):
    """The number of [9], found by trying each beginning."""
    endless = word * (len(name) + 1)
    return max(size for size in range(len(name) + 1) if endless.startswith(name[:size]))


class RootTest(unittest.TestCase):
    """[9]: the part that a word repeats."""

    def test_one_letter(self):
        self.assertEqual(root("a"), ("a", 1))
        self.assertEqual(root("aaaaaa"), ("a", 6))

    def test_repeated_parts(self):
        self.assertEqual(root("abab"), ("ab", 2))
        self.assertEqual(root("aabaabaab"), ("aab", 3))
        self.assertEqual(root("abaaba"), ("aba", 2))
        self.assertEqual(root("abababab"), ("ab", 4))

    def test_no_repeated_parts(self):
        for word in ("ab", "aba", "ababa", "abaab", "aab", "abb", "aaab", "baaa", "abbab"):
            self.assertEqual(root(word), (word, 1))

    def test_other_characters(self):
        # A word is any string that is not empty.
        self.assertEqual(root("/-/-"), ("/-", 2))
        self.assertEqual(root("@ @ "), ("@ ", 2))

    def test_against_all_short_words(self):
        for word in texts_up_to("ab", 8)[1:] + texts_up_to("-/0", 5)[1:]:
            self.assertEqual(root(word), slow_root(word))

    def test_long_words(self):
        self.assertEqual(root("ab" * 100), ("ab", 100))
        self.assertEqual(root("a" * 2000), ("a", 2000))
        self.assertEqual(root("a" * 199 + "b"), ("a" * 199 + "b", 1))
        self.assertEqual(root(("a" * 99 + "b") * 2), ("a" * 99 + "b", 2))

    def test_result_is_a_tuple(self):
        self.assertIsInstance(root("abab"), tuple)

    def test_parameter_names(self):
        self.assertEqual(root(word="baba"), ("ba", 2))


class SharedTest(unittest.TestCase):
    """[9]: how far a name follows a word that is repeated without end."""

    def test_the_empty_name(self):
        for word in ("a", "ab", "aab"):
            self.assertEqual(shared(word, ""), 0)

    def test_names_that_lie_on_the_word(self):
        for word in ("a", "b", "ab", "aab", "abab"):
            for length in (1, 2, 3, 7, 200):
                self.assertEqual(shared(word, (word * 200)[:length]), length)

    def test_names_that_leave_at_the_first_letter(self):
        self.assertEqual(shared("ab", "b"), 0)
        self.assertEqual(shared("ab", "bab"), 0)
        self.assertEqual(shared("b", "abbb"), 0)

    def test_names_that_leave_later(self):
        self.assertEqual(shared("ab", "aa"), 1)
        self.assertEqual(shared("ab", "abb"), 2)
        self.assertEqual(shared("ab", "ababaa"), 5)
        self.assertEqual(shared("aab", "aabaaab"), 5)
        self.assertEqual(shared("a", "a" * 199 + "b"), 199)

    def test_a_name_that_comes_back_to_the_word(self):
        self.assertEqual(shared("ab", "abbb"), 2)
        self.assertEqual(shared("ab", "aaab"), 1)

    def test_against_all_short_names(self):
        for word in texts_up_to("ab", 3)[1:]:
            for name in texts_up_to("ab", 6):
                self.assertEqual(shared(word, name), slow_shared(word, name))

    def test_parameter_names(self):
        self.assertEqual(shared(word="ab", name="aba"), 3)
        self.assertEqual(shared("ab", "aba"), 3)
        self.assertEqual(shared(name="b", word="aba"), 0)


class SameWordsTest(unittest.TestCase):
    """[9]: which words are the same when repeated without end."""

    def test_same(self):
        for one, other in (("a", "a"), ("a", "aaa"), ("ab", "abab"), ("abab", "ababab"), ("aabaab", "aab")):
            self.assertIs(same_words(one, other), True)
            self.assertIs(same_words(other, one), True)

    def test_different(self):
        for one, other in (("a", "b"), ("ab", "ba"), ("ab", "aba"), ("a", "ab"), ("aab", "aabaaba"), ("abab", "abaab")):
            self.assertIs(same_words(one, other), False)
            self.assertIs(same_words(other, one), False)

    def test_against_long_repetitions(self):
        words = texts_up_to("ab", 5)[1:]
        for one in words:
            for other in words:
                same = one * len(other) == other * len(one)
                self.assertIs(same_words(one, other), same)
                self.assertIs(same_words(one, other), root(one)[0] == root(other)[0])

    def test_long_words(self):
        self.assertIs(same_words("ab" * 100, "ab" * 77), True)
        self.assertIs(same_words("ab" * 100, "ab" * 99 + "a"), False)

    def test_parameter_names(self):
        self.assertIs(same_words(one="ab", other="abab"), True)


if __name__ == "__main__":
    unittest.main()
