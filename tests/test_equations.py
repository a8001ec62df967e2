import random
import unittest

from tests.any_values import ascending, long_names, made_texts, random_made, texts_up_to
from undername.equations import names_where, solved
from undername.errors import Mismatch
from undername.made import Made, relation, word_of
from undername.names import Names
from undername.words import root

WORDS = ("same", "begins", "begun", "below", "above")
SHORT = {"ab": 6, "abc": 4, "-/0a": 3}


def pairs_of_mades(letters, count, seed):
    """Random pairs of made texts, many of which begin alike."""
    source = random.Random(seed)
    pairs = []
    for _ in range(count):
        head = random_made(source, letters, 2, 1) if source.random() < 0.3 else ""
        pairs.append((Made(head + random_made(source, letters)), Made(head + random_made(source, letters))))
    return pairs


class NamesWhereTest(unittest.TestCase):
    """[18]: the set of names for which the relation is one of some words."""

    def assert_names(self, letters, one, other, names_of_word, names):
        for name in names:
            word = relation(one, other, name)
            for told, some in names_of_word.items():
                self.assertIs(name in some, told == word, (one.text, other.text, name, told))

    def test_small_pairs(self):
        for one, other, words, names in (
            ("a@", "@a", ["same"], Names.family("ab", "a", "")),
            ("@", "ab", ["same"], Names.of("ab", ["ab"])),
            ("@", "ab", ["begun"], Names.beginning("ab", "ab") - Names.of("ab", ["ab"])),
            ("@", "ab", ["begins"], Names.of("ab", ["", "a"])),
            ("@", "ab", ["above"], Names.beginning("ab", "b")),
            ("@", "ab", ["below"], Names.beginning("ab", "aa")),
            ("@", "@@", ["same"], Names.of("ab", [""])),
            ("@", "@@", ["begins"], ~Names.of("ab", [""])),
            ("@a", "@b", ["below"], Names.every("ab")),
            ("@a", "@b", ["above", "same", "begins", "begun"], Names.none("ab")),
            ("ab@", "@ba", ["same"], Names.family("ab", "ab", "a")),
        ):
            self.assertEqual(names_where("ab", Made(one), Made(other), words), names)

    def test_each_word_for_all_short_names(self):
        for letters in SHORT:
            names = texts_up_to(letters, SHORT[letters])
            for one, other in pairs_of_mades(letters, 120, 18):
                sets = {word: names_where(letters, one, other, [word]) for word in WORDS}
                self.assert_names(letters, one, other, sets, names)

    def test_all_small_made_texts(self):
        texts = made_texts("ab", 2, 1)
        for one in texts:
            for other in texts:
                sets = {word: names_where("ab", Made(one), Made(other), [word]) for word in WORDS}
                self.assert_names("ab", Made(one), Made(other), sets, texts_up_to("ab", 4))

    def test_names_that_lie_on_a_word_for_long(self):
        source = random.Random(181)
        for letters in SHORT:
            for one, other in pairs_of_mades(letters, 150, 182):
                word = word_of(one, other)
                names = long_names(source, letters, [word or letters[0], letters[0], letters[-1]], 12)
                sets = {word: names_where(letters, one, other, [word]) for word in WORDS}
                self.assert_names(letters, one, other, sets, names)

    def test_several_words(self):
        source = random.Random(183)
        for one, other in pairs_of_mades("ab", 150, 184):
            words = source.sample(WORDS, source.randint(0, 5))
            names = names_where("ab", one, other, source.choice([list, tuple])(words))
            union = Names.none("ab")
            for word in words:
                union |= names_where("ab", one, other, [word])
            self.assertEqual(names, union)
            self.assertEqual(names_where("ab", one, other, WORDS), Names.every("ab"))
            self.assertEqual(names_where("ab", one, other, []), Names.none("ab"))

    def test_sides_exchanged(self):
        turned = {"same": "same", "begins": "begun", "begun": "begins", "below": "above", "above": "below"}
        for one, other in pairs_of_mades("ab", 100, 185):
            for word in WORDS:
                self.assertEqual(
                    names_where("ab", one, other, [word]), names_where("ab", other, one, [turned[word]])
                )

    def test_made_texts_of_the_greatest_sizes(self):
        for one, other in (
            ("@abababab@@@", "ab@ab@ab@ab@"), ("@@@@abababab", "abababab@@@@"), ("@aaaaaaaa@", "aaaa@aaaa@"),
            ("a@ab@abb@bb@", "@aab@abbb@b@"), ("@baabaaba@@", "baab@aaba@@"), ("@", "abbabaab"),
        ):
            made, others = Made(one), Made(other)
            names = texts_up_to("ab", 5) + [(word * 40)[:size] for word in ("a", "ab", "baab", "abb") for size in range(40)]
            sets = {word: names_where("ab", made, others, [word]) for word in WORDS}
            self.assert_names("ab", made, others, sets, names)

    def test_words_are_not_changed(self):
        words = ["same", "below"]
        names_where("ab", Made("@"), Made("a"), words)
        self.assertEqual(words, ["same", "below"])

    def test_other_letters(self):
        for one, other in (("c@", "@"), ("@", "@c"), ("c", "c"), ("@c", "@c")):
            with self.assertRaises(Mismatch) as caught:
                names_where("ab", Made(one), Made(other), ["same"])
            self.assertIs(type(caught.exception), Mismatch)
            with self.assertRaises(Mismatch):
                names_where("ab", Made(one), Made(other), [])

    def test_parameter_names(self):
        names = names_where(letters="ab", one=Made("a@"), other=Made("@a"), words=("same",))
        self.assertEqual(names[3], "aaa")


class SolvedTest(unittest.TestCase):
    """[19]: for which names two made texts are the same text."""

    def test_example(self):
        self.assertEqual(solved("ab", Made("ab@"), Made("@ba")), ((), ("ab", "a", 0)))
        self.assertEqual(solved("ab", Made("@@"), Made("@ab")), (("ab",), None))

    def test_equal_texts(self):
        for text in ("", "@", "ab", "a@b@"):
            self.assertIsNone(solved("ab", Made(text), Made(text)))

    def test_no_solution(self):
        for one, other in (("a", "b"), ("a@", "b@"), ("@a", "@b"), ("a@", "@b"), ("@", "@a"), ("@aa", "a@"), ("", "a"), ("ab@", "@aa")):
            self.assertEqual(solved("ab", Made(one), Made(other)), ((), None))

    def test_one_solution(self):
        for one, other, name in (
            ("@", "abba", "abba"), ("", "@", ""), ("@", "@@@", ""), ("a", "a@", ""), ("@@", "abab", "ab"),
            ("a@a", "aba", "b"), ("@@", "a@", "a"), ("@b@", "b@", ""), ("@a", "aa", "a"),
        ):
            self.assertEqual(solved("ab", Made(one), Made(other)), ((name,), None))

    def test_two_solutions(self):
        for one, other, names in (
            ("aba@b@", "@a@bab", ("", "ab")), ("aaba@b@", "@@baaba", ("a", "aaba")), ("aba@@b@", "@a@@bab", ("", "ab")),
            ("abaab@@", "@b@abaa", ("a", "abaa")), ("babab@a@", "@bab@aba", ("", "ba")),
        ):
            self.assertEqual(solved("ab", Made(one), Made(other)), (names, None))
            self.assertEqual(solved("abc", Made(other), Made(one)), (names, None))

    def test_endless_families(self):
        for one, other, family in (
            ("a@", "@a", ("a", "", 0)), ("aa@", "@aa", ("a", "", 0)), ("ab@", "@ab", ("ab", "", 0)),
            ("abab@", "@abab", ("ab", "", 0)), ("aba@", "@baa", ("aba", "a", 0)), ("aab@", "@aba", ("aab", "a", 0)),
            ("aab@", "@baa", ("aab", "aa", 0)), ("@a@", "a@@", ("a", "", 0)), ("b@a@", "ba@@", ("a", "", 0)),
        ):
            self.assertEqual(solved("ab", Made(one), Made(other)), ((), family))

    def test_against_plain_search(self):
        kinds = {"families": 0, "names": 0}
        for letters in SHORT:
            short = texts_up_to(letters, SHORT[letters])
            pairs = pairs_of_mades(letters, 700, 19) + [
                (Made(one), Made(other)) for one, other in (
                    ("@aba@a", "aba@a@"), ("@ab@aa@", "ab@@aa@"), ("@a@bb", "a@@bb"), ("ab@a@", "@aba@"),
                ) if letters != "-/0a"
            ]
            for one, other in pairs:
                self.assert_solved(letters, one, other, short, kinds)
        self.assertTrue(kinds["families"] and kinds["names"])

    def assert_solved(self, letters, one, other, short, kinds):
        result = solved(letters, one, other)
        same = names_where(letters, one, other, ["same"])
        if one.text == other.text:
            self.assertIsNone(result)
            return
        self.assertIsInstance(result, tuple)
        names, family = result
        self.assertIsInstance(names, tuple)
        self.assertEqual(list(names), ascending(set(names)))
        found = Names.of(letters, names)
        if family is not None:
            word, rest, count = family
            self.assertEqual(root(word), (word, 1))
            self.assertTrue(word.startswith(rest) and len(rest) < len(word))
            self.assertFalse(any(name in Names.family(letters, word, rest, count) for name in names))
            if count:
                self.assertFalse(one(word * (count - 1) + rest) == other(word * (count - 1) + rest))
            found |= Names.family(letters, word, rest, count)
        self.assertEqual(found, same)
        for name in short:
            self.assertIs(name in found, one(name) == other(name))
        kinds["families"] += family is not None
        kinds["names"] += bool(names)

    def test_sides_exchanged(self):
        for one, other in pairs_of_mades("ab", 300, 191):
            self.assertEqual(solved("ab", one, other), solved("ab", other, one))

    def test_different_lengths(self):
        # So many marks more than the other one: there is one length at most.
        for one, other in pairs_of_mades("ab", 400, 192):
            if one.marks != other.marks:
                names, family = solved("ab", one, other)
                self.assertIsNone(family)
                self.assertLessEqual(len(names), 1)

    def test_made_texts_of_the_greatest_sizes(self):
        self.assertEqual(solved("ab", Made("abababab@@@@"), Made("@@@@abababab")), ((), ("ab", "", 0)))
        self.assertEqual(solved("ab", Made("@@@@"), Made("@@abababab@")), (("abababab",), None))
        self.assertEqual(solved("ab", Made("@"), Made("abbabaab")), (("abbabaab",), None))
        self.assertEqual(solved("ab", Made("abaababa@@"), Made("@abaababa@")), ((), ("abaababa", "", 0)))

    def test_other_letters(self):
        for one, other in (("c@", "@"), ("@", "@c"), ("c", "c"), ("c", "@c")):
            with self.assertRaises(Mismatch) as caught:
                solved("ab", Made(one), Made(other))
            self.assertIs(type(caught.exception), Mismatch)

    def test_parameter_names(self):
        self.assertEqual(solved(letters="ab", one=Made("b@"), other=Made("@b")), ((), ("b", "", 0)))


if __name__ == "__main__":
    unittest.main()
