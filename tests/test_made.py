import random
import unittest

from tests.any_values import long_names, made_texts, no_strings, random_made, texts_up_to
from undername.errors import InvalidMade
from undername.made import Made, relation, struck, word_of
from undername.words import shared

CHARACTERS = "-./0123456789_abcdefghijklmnopqrstuvwxyz"


class MadeTest(unittest.TestCase):
    """[10]: what a made text is."""

    def test_example(self):
        made = "u/" + Made("@") * 2
        self.assertEqual((made.text, made.marks, made("x"), str(Made(""))), ("u/@@", 2, "u/xx", "!"))

    def test_attributes(self):
        for text, marks, letters in (
            ("", 0, ""), ("@", 1, ""), ("@@@@", 4, ""), ("u/@", 1, "/u"), ("@-/0a@", 2, "-/0a"),
            ("baba@ab", 1, "ab"), ("zyx", 0, "xyz"), ("_.@.-_", 1, "-._"), (CHARACTERS[::-1], 0, CHARACTERS),
        ):
            made = Made(text)
            self.assertEqual((made.text, made.marks, made.letters), (text, marks, letters))

    def test_the_empty_one_is_the_default(self):
        self.assertEqual((Made().text, Made().marks, Made().letters), ("", 0, ""))

    def test_attributes_are_set_at_once(self):
        self.assertLessEqual({"text", "marks", "letters"}, set(vars(Made("a@"))))

    def test_every_character(self):
        for code in range(128):
            text = chr(code)
            if text in CHARACTERS or text == "@":
                self.assertEqual(Made(text).text, text)
            else:
                self.assert_invalid(text, 0)

    def test_one_wrong_character_at_each_place(self):
        for wrong in ("!", " ", "A", "\n", "%", "*", "~", "\u00e9"):
            for at in range(7):
                text = "@a/@0b"
                self.assert_invalid(text[:at] + wrong + text[at:], at)

    def test_the_first_wrong_character_counts(self):
        self.assert_invalid("a@ b ", 2)
        self.assert_invalid("a" * 40 + "?!", 40)

    def test_values_of_other_kinds(self):
        for value in no_strings():
            self.assert_invalid(value, 0)

    def test_lists_are_not_changed(self):
        value = ["a", "@"]
        self.assert_invalid(value, 0)
        self.assertEqual(value, ["a", "@"])

    def assert_invalid(self, text, at):
        with self.assertRaises(InvalidMade) as caught:
            Made(text)
        self.assertIs(type(caught.exception), InvalidMade)
        self.assertEqual(caught.exception.at, at)

    def test_filled_with_names(self):
        for text, name, filled in (
            ("@", "ab", "ab"), ("a@b@", "x", "axbx"), ("@@@@", "ab", "abababab"), ("ab", "x", "ab"),
            ("", "x", ""), ("a@b", "", "ab"), ("@", "", ""), ("@/@", "a/b", "a/b/a/b"),
        ):
            self.assertEqual(Made(text)(name), filled)

    def test_filled_with_any_string(self):
        for name in ("@", "a@", "!", "\n", "A B", "@@"):
            self.assertEqual(Made("a@b@")(name), "a" + name + "b" + name)

    def test_filled_with_long_names(self):
        self.assertEqual(Made("a@b@")("ab" * 150), "a" + "ab" * 150 + "b" + "ab" * 150)

    def test_parameter_names(self):
        self.assertEqual(Made(text="a@")(name="b"), "ab")


class OperatorsTest(unittest.TestCase):
    """[11]: joining, repeating, equality, text."""

    def test_joined_with_made_texts(self):
        joined = Made("a@") + Made("@b")
        self.assertIsInstance(joined, Made)
        self.assertEqual((joined.text, joined.marks, joined.letters), ("a@@b", 2, "ab"))
        self.assertEqual((Made() + Made("a")).text, "a")
        self.assertEqual((Made("a") + Made()).text, "a")

    def test_joined_with_strings(self):
        self.assertEqual((Made("a@") + "@b").text, "a@@b")
        self.assertEqual(("a@" + Made("@b")).text, "a@@b")
        self.assertEqual((Made("a") + "").text, "a")
        self.assertEqual(("" + Made("a")).text, "a")
        self.assertEqual((Made("b") + "/@" + "0").letters, "/0b")
        self.assertEqual(("b" + Made("@") + "b").marks, 1)

    def test_joined_with_strings_that_are_refused(self):
        for wrong, at in ((" ", 0), ("a@!", 2), ("ab?c?", 2), ("\n", 0)):
            with self.assertRaises(InvalidMade) as caught:
                Made("abc@") + wrong
            self.assertEqual(caught.exception.at, at)
            with self.assertRaises(InvalidMade) as caught:
                wrong + Made("abc@")
            self.assertEqual(caught.exception.at, at)

    def test_repeated(self):
        for count in range(5):
            for repeated in (Made("a@") * count, count * Made("a@")):
                self.assertIsInstance(repeated, Made)
                self.assertEqual(repeated.text, "a@" * count)
                self.assertEqual(repeated.marks, count)
                self.assertEqual(repeated.letters, "a" if count else "")

    def test_in_place_operators_give_new_objects(self):
        elder = made = Made("a@")
        made += "b"
        self.assertEqual((elder.text, made.text), ("a@", "a@b"))
        joined = made
        made += Made("@")
        self.assertEqual((joined.text, made.text), ("a@b", "a@b@"))
        repeated = made
        made *= 2
        self.assertEqual((repeated.text, repeated.marks, made.text), ("a@b@", 2, "a@b@a@b@"))
        self.assertIsInstance(made, Made)

    def test_in_place_operator_that_is_refused_changes_nothing(self):
        made = Made("a@")
        with self.assertRaises(InvalidMade):
            made += "b!"
        self.assertEqual(made.text, "a@")

    def test_operators_leave_both_sides(self):
        one, other = Made("a@"), Made("b")
        self.assertEqual((one + other).text, "a@b")
        self.assertEqual((one * 3).text, "a@a@a@")
        self.assertEqual((one.text, one.marks, one.letters, other.text), ("a@", 1, "a", "b"))

    def test_length(self):
        for text in ("", "@", "a@b@", "a" * 40):
            self.assertEqual(len(Made(text)), len(text))

    def test_equality(self):
        for one in ("", "@", "a@", "@a"):
            for other in ("", "@", "a@", "@a"):
                self.assertIs(Made(one) == Made(other), one == other)
                self.assertIs(Made(one) != Made(other), one != other)

    def test_equal_to_nothing_else(self):
        for text in ("", "a@", "!"):
            self.assertIs(Made("a@") == text, False)
            self.assertIs(text == Made("a@"), False)
            self.assertIs(Made("a@") != text, True)
        self.assertIs(Made() == "", False)
        self.assertIs(Made() == "!", False)
        for value in no_strings():
            self.assertIs(Made() == value, False)
            self.assertIs(value == Made(), False)

    def test_text(self):
        self.assertEqual(str(Made()), "!")
        for text in ("@", "a", "u/@", "@@"):
            self.assertEqual(str(Made(text)), text)

    def test_methods_stand_in_the_class(self):
        self.assertLessEqual(
            {"__init__", "__call__", "__add__", "__radd__", "__mul__", "__rmul__", "__eq__", "__len__", "__str__"},
            set(vars(Made)),
        )


class StruckTest(unittest.TestCase):
    """[12]: what is left without the longest common beginning."""

    def test_pairs(self):
        for one, other, left in (
            ("a@b", "a@c", ("b", "c")), ("ab", "ab", ("", "")), ("", "", ("", "")), ("", "@", ("", "@")),
            ("@a", "@a@", ("", "@")), ("a@", "ab", ("@", "b")), ("@@", "@ab", ("@", "ab")), ("ab@", "@ba", ("ab@", "@ba")),
        ):
            self.assertEqual(struck(Made(one), Made(other)), left)
            self.assertEqual(struck(Made(other), Made(one)), left[::-1])

    def test_result_is_a_tuple_of_strings(self):
        left = struck(Made("a@"), Made("ab"))
        self.assertIsInstance(left, tuple)
        self.assertEqual([type(text) for text in left], [str, str])

    def test_against_all_short_texts(self):
        texts = made_texts("ab", 2, 2)
        for one in texts:
            for other in texts:
                first, second = struck(Made(one), Made(other))
                size = len(one) - len(first)
                self.assertEqual((one[:size] + first, other[:size] + second), (one, other))
                self.assertEqual(one[:size], other[:size])
                self.assertFalse(first and second and first[0] == second[0])

    def test_parameter_names(self):
        self.assertEqual(struck(one=Made("a"), other=Made("b")), ("a", "b"))


class RelationTest(unittest.TestCase):
    """[12]: how one made text stands to another for a name."""

    def test_words(self):
        for one, other, name, word in (
            ("a@", "@a", "aa", "same"), ("a@", "@a", "b", "below"), ("@a", "a@", "b", "above"),
            ("@", "@a", "b", "begins"), ("@a", "@", "b", "begun"), ("@", "ab@", "", "begins"),
            ("@", "ab", "ab", "same"), ("@", "ab", "a", "begins"), ("@", "ab", "aba", "begun"),
            ("@", "ab", "b", "above"), ("@", "ab", "aa", "below"), ("", "", "ab", "same"), ("", "@", "", "same"),
        ):
            self.assertEqual(relation(Made(one), Made(other), name), word)

    def test_against_plain_comparison(self):
        texts = made_texts("ab", 2, 2)
        for one in texts:
            for other in texts:
                for name in texts_up_to("ab", 3):
                    self.assertEqual(relation(Made(one), Made(other), name), plain_relation(one, other, name))

    def test_long_names(self):
        source = random.Random(12)
        for _ in range(300):
            one, other = random_made(source, "-/0a"), random_made(source, "-/0a")
            for name in long_names(source, "-/0a", ["-", "/0", "aa-"], 5) + ["a" * 200]:
                self.assertEqual(relation(Made(one), Made(other), name), plain_relation(one, other, name))

    def test_parameter_names(self):
        self.assertEqual(relation(one=Made("@"), other=Made("a"), name="b"), "above")


def plain_relation(one, other, name):
    """The word of [12], found letter by letter."""
    first, second = one.replace("@", name), other.replace("@", name)
    for letter, other_letter in zip(first, second):
        if letter != other_letter:
            return "below" if letter < other_letter else "above"
    if len(first) == len(second):
        return "same"
    return "begins" if len(first) < len(second) else "begun"


class WordOfTest(unittest.TestCase):
    """[13]: the word along which names keep the relation open."""

    def test_words(self):
        for one, other, word in (
            ("@", "ab", "ab"), ("@a", "ab@a", "ab"), ("a@", "ab@", "b"), ("@b@", "@a@", None), ("@@", "@ab@", "ab"),
            ("ab@", "@ba", "ab"), ("@", "@", None), ("@", "@a", None), ("", "a", None), ("", "@", None),
            ("ab", "aa", None), ("a@", "b@", None), ("ab@", "ab", None), ("a@@b", "a@b", "b"), ("@a", "b@b", "b"),
        ):
            self.assertEqual(word_of(Made(one), Made(other)), word)
            self.assertEqual(word_of(Made(other), Made(one)), word)

    def test_against_all_short_texts(self):
        texts = made_texts("ab", 2, 2)
        for one in texts:
            for other in texts:
                first, second = struck(Made(one), Made(other))
                word = word_of(Made(one), Made(other))
                if first == "" or second == "" or "@" not in first[0] + second[0]:
                    self.assertIsNone(word)
                else:
                    rest = second if first[0] == "@" else first
                    self.assertTrue(word and "@" not in word and rest.startswith(word))
                    self.assertIn(rest[len(word):len(word) + 1], ("", "@"))

    def test_where_a_name_leaves_the_word_decides(self):
        decided = {"mark": 0, "fixed": 0}
        texts = made_texts("ab", 3, 2)
        source = random.Random(13)
        for _ in range(2000):
            one, other = Made(source.choice(texts)), Made(source.choice(texts))
            word = word_of(one, other)
            if word is None:
                continue
            first, second = struck(one, other)
            rest = second if first[0] == "@" else first
            for name in texts_up_to("ab", 4):
                at = shared(word, name)
                if at == len(name) or ("@" not in rest and len(rest) <= at):
                    continue
                decided["mark" if "@" in rest else "fixed"] += 1
                is_less = name[at] < word[at % len(word)]
                expected = "below" if is_less == (first[0] == "@") else "above"
                self.assertEqual(relation(one, other, name), expected)
        self.assertTrue(decided["mark"] and decided["fixed"])

    def test_parameter_names(self):
        self.assertEqual(word_of(one=Made("@"), other=Made("ba@")), "ba")


if __name__ == "__main__":
    unittest.main()
