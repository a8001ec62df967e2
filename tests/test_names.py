import random
import unittest

from tests.any_values import ascending, no_strings, random_text, texts_up_to
from undername.errors import Mismatch, NoName, NoText
from undername.made import Made
from undername.names import Names

SHORT = {"ab": 7, "abc": 4, "-/0a": 4}


def short_names(letters):
    return texts_up_to(letters, SHORT[letters])


def some_sets(letters, count, seed):
    """Random sets of names, each with the function that tells what is in it."""
    source = random.Random(seed)
    return [random_set(source, letters, 2) for _ in range(count)]


def random_set(source, letters, depth):
    kind = source.randint(0, 3 if depth == 0 else 7)
    if kind == 0:
        some = [random_text(source, letters, 3) for _ in range(source.randint(0, 4))]
        return Names.of(letters, some), lambda name: name in some
    if kind == 1:
        text = random_text(source, letters, 3)
        return Names.beginning(letters, text), lambda name: name.startswith(text)
    if kind in (2, 3):
        word = random_text(source, letters, 2) + source.choice(letters)
        rest, count = random_text(source, letters, 4), source.randint(0, 2)
        family = [word * k + rest for k in range(count, 12)]
        return Names.family(letters, word, rest, count), lambda name: name in family
    one, is_in_one = random_set(source, letters, depth - 1)
    other, is_in_other = random_set(source, letters, depth - 1)
    return [
        (one & other, lambda name: is_in_one(name) and is_in_other(name)),
        (one | other, lambda name: is_in_one(name) or is_in_other(name)),
        (one - other, lambda name: is_in_one(name) and not is_in_other(name)),
        (one ^ other, lambda name: is_in_one(name) != is_in_other(name)),
    ][kind - 4]


class NamesTest(unittest.TestCase):
    def assert_names(self, names, letters, is_in):
        """All short names are in the set exactly if they should, and the table is right."""
        self.assertIsInstance(names, Names)
        for name in short_names(letters):
            self.assertIs(name in names, bool(is_in(name)), name)
        self.assert_table(names, letters)

    def assert_table(self, names, letters):
        self.assertEqual(names.letters, letters)
        table = names.table
        self.assertIsInstance(table, tuple)
        for state in table:
            self.assertIsInstance(state, tuple)
            is_in, following = state
            self.assertIs(type(is_in), bool)
            self.assertIsInstance(following, tuple)
            self.assertEqual(len(following), len(letters))
        self.assertEqual(met_states(table), list(range(len(table))))
        self.assertEqual(kinds_of_states(table), len(table))

    def assert_no_text(self, value, call):
        with self.assertRaises(NoText) as caught:
            call()
        self.assertIs(type(caught.exception), NoText)
        self.assertIs(caught.exception.value, value)


def met_states(table):
    """The states in the order in which they are met."""
    met = [0]
    for state in met:
        met.extend(to for to in dict.fromkeys(table[state][1]) if to not in met)
    return met


def kinds_of_states(table):
    """The number of states of which no two are alike, found by splitting again and again."""
    kinds = [is_in for is_in, _ in table]
    while True:
        rows = [(kinds[at], tuple(kinds[to] for to in way)) for at, (_, way) in enumerate(table)]
        numbers = {row: number for number, row in enumerate(dict.fromkeys(rows))}
        if len(numbers) == len(set(kinds)):
            return len(numbers)
        kinds = [numbers[row] for row in rows]


class MakingTest(NamesTest):
    """[14]: the ways to make a set of names."""

    def test_example(self):
        names = Names.family("ab", "ab", "a")
        self.assertEqual(
            (names[0], names[1], names.size, "aba" in names, (names // "ab").least), ("a", "aba", None, True, "a")
        )

    def test_none_and_every(self):
        for letters in SHORT:
            self.assert_names(Names.none(letters), letters, lambda name: False)
            self.assert_names(Names.every(letters), letters, lambda name: True)

    def test_of_some_names(self):
        for letters, some in (
            ("ab", []), ("ab", [""]), ("ab", ["", "a", "b"]), ("ab", ("ba", "ba", "a")), ("ab", ["abab", "ab", "bbbb"]),
            ("abc", ["cab", "cb", ""]), ("-/0a", ["a/", "a0", "-", "0000"]), ("ab", texts_up_to("ab", 3)),
        ):
            self.assert_names(Names.of(letters, some), letters, lambda name: name in some)

    def test_of_long_names(self):
        names = Names.of("ab", ["ab" * 100, "ab" * 99 + "aa"])
        self.assertIn("ab" * 100, names)
        self.assertNotIn("ab" * 99, names)
        self.assertEqual(names.size, 2)
        self.assert_table(names, "ab")

    def test_beginning(self):
        for letters in SHORT:
            for text in texts_up_to(letters, 2) + [letters[::-1]]:
                self.assert_names(Names.beginning(letters, text), letters, lambda name: name.startswith(text))

    def test_family(self):
        for letters in ("ab", "abc"):
            for word in texts_up_to(letters, 2)[1:] + ["aab", "abab"]:
                for rest in texts_up_to(letters, 2) + ["abaab", "babab", "aaaa"]:
                    for count in (0, 1, 2, 3):
                        family = [word * k + rest for k in range(count, 9)]
                        self.assert_names(
                            Names.family(letters, word, rest, count), letters, lambda name: name in family
                        )

    def test_family_begins_with_none_of_its_words(self):
        self.assertEqual(Names.family("ab", "ab", "b"), Names.family("ab", "ab", "b", 0))

    def test_family_with_large_counts(self):
        for word, rest, count in (("a", "b", 300), ("ab", "aa", 120), ("abcabcabca", "bcabcabcab", 29), ("abcabcabca", "", 60)):
            names = Names.family("abc", word, rest, count)
            self.assert_table(names, "abc")
            self.assertEqual(names.least, word * count + rest)
            self.assertIn(word * (count + 7) + rest, names)
            self.assertNotIn(word * (count - 1) + rest, names)
            self.assertIsNone(names.size)

    def test_changed_arguments_have_no_effect(self):
        some = ["a", "b"]
        names = Names.of("ab", some)
        some.append("ab")
        self.assertEqual(some, ["a", "b", "ab"])
        self.assertEqual(names, Names.of("ab", ["a", "b"]))

    def test_values_that_are_no_texts(self):
        for value in no_strings() + ["c", "ab ", "a@", "A"]:
            self.assert_no_text(value, lambda: Names.of("ab", ["a", value, 7]))
            self.assert_no_text(value, lambda: Names.beginning("ab", value))
            self.assert_no_text(value, lambda: Names.family("ab", value, 7))
            self.assert_no_text(value, lambda: Names.family("ab", "a", value))
            self.assert_no_text(value, lambda: Names.family("ab", value, "a", 2))

    def test_parameter_names(self):
        self.assertEqual(Names.none(letters="ab"), Names.none("ab"))
        self.assertEqual(Names.every(letters="ab"), Names.every("ab"))
        self.assertEqual(Names.of(letters="ab", some=["a"]), Names.of("ab", ("a",)))
        self.assertEqual(Names.beginning(letters="ab", text="b"), Names.beginning("ab", "b"))
        self.assertEqual(Names.family(letters="ab", word="b", rest="a", count=2), Names.family("ab", "b", "a", 2))


class TableTest(NamesTest):
    """[15]: the least machine, its states numbered as they are met."""

    def test_tables(self):
        self.assertEqual(Names.none("ab").table, ((False, (0, 0)),))
        self.assertEqual(Names.every("abc").table, ((True, (0, 0, 0)),))
        self.assertEqual(Names.of("ab", [""]).table, ((True, (1, 1)), (False, (1, 1))))
        self.assertEqual(
            Names.family("ab", "ab", "a").table, ((False, (1, 2)), (True, (2, 0)), (False, (2, 2)))
        )
        self.assertEqual(
            Names.of("ab", ["ba", "a"]).table,
            ((False, (1, 2)), (True, (3, 3)), (False, (1, 3)), (False, (3, 3))),
        )
        self.assertEqual(Names.beginning("ab", "b").table, ((False, (1, 2)), (False, (1, 1)), (True, (2, 2))))

    def test_attributes_are_set_at_once(self):
        for names in (Names.none("ab"), Names.every("ab") & Names.of("ab", ["a"]), "a" + Names.none("ab")):
            self.assertLessEqual({"letters", "table"}, set(vars(names)))

    def test_equal_sets_have_equal_tables(self):
        every = Names.every("ab")
        self.assertEqual((Names.beginning("ab", "a") | Names.beginning("ab", "b") | Names.of("ab", [""])).table, every.table)
        self.assertEqual(Names.family("ab", "abab", "ab").table, Names.family("ab", "abab", "", 1).__floordiv__("ab").table)
        self.assertEqual(Names.family("ab", "aa", "") | Names.family("ab", "aa", "a"), Names.family("ab", "a", ""))

    def test_states_that_are_alike_only_at_last(self):
        # States of a long row differ by how far it is to the end alone.
        names = Names.of("ab", ["a" * 150]) | Names.of("ab", ["b" + "a" * 148])
        self.assertEqual(len(names.table), 152)
        self.assert_table(names, "ab")

    def test_random_sets(self):
        for letters in SHORT:
            for names, is_in in some_sets(letters, 60, 15):
                self.assert_names(names, letters, is_in)

    def test_machines_of_many_states(self):
        source = random.Random(5)
        letters = "abcde"
        one = Names.of(letters, ["".join(source.choice(letters) for _ in range(55))])
        other = Names.family(letters, "abcabcabce", "eeddccbbaa", 4)
        for names in (one | other, one + "abcde" * 40, "abcde" * 40 + other, other + "e" * 200, ~other ^ one):
            self.assert_table(names, letters)


class OperatorsTest(NamesTest):
    """[16]: operators and comparisons."""

    def test_operators(self):
        for letters in SHORT:
            rows = some_sets(letters, 12, 16)
            for one, is_in_one in rows:
                self.assert_names(~one, letters, lambda name: not is_in_one(name))
                for other, is_in_other in rows[:6]:
                    self.assert_names(one & other, letters, lambda name: is_in_one(name) and is_in_other(name))
                    self.assert_names(one | other, letters, lambda name: is_in_one(name) or is_in_other(name))
                    self.assert_names(one - other, letters, lambda name: is_in_one(name) and not is_in_other(name))
                    self.assert_names(one ^ other, letters, lambda name: is_in_one(name) != is_in_other(name))

    def test_in_place_operators_give_new_objects(self):
        a, b = Names.beginning("ab", "a"), Names.family("ab", "ab", "a")
        elder = names = Names.beginning("ab", "a")
        names &= b
        self.assertEqual(names, a & b)
        names |= a
        self.assertEqual(names, (a & b) | a)
        names -= b
        self.assertEqual(names, ((a & b) | a) - b)
        names ^= a
        self.assertEqual(names, (((a & b) | a) - b) ^ a)
        self.assertEqual((elder, elder.table), (a, a.table))
        names = a
        names //= "a"
        self.assertEqual(names, Names.every("ab"))
        names += "b"
        self.assertEqual(names, Names.every("ab") + "b")
        self.assertEqual(a, Names.beginning("ab", "a"))

    def test_texts_in_front_and_behind(self):
        for letters in SHORT:
            texts = texts_up_to(letters, 2) + [letters * 2, letters[0] * 3, letters[0] + letters[1] + letters[0]]
            for names, is_in in some_sets(letters, 8, 17):
                for text in texts:
                    self.assert_names(
                        text + names, letters, lambda name: name.startswith(text) and is_in(name[len(text):])
                    )
                    self.assert_names(
                        names + text, letters, lambda name: name.endswith(text) and is_in(name[:len(name) - len(text)])
                    )
                    self.assert_names(names // text, letters, lambda name: is_in(text + name))

    def test_long_texts(self):
        text = "ab" * 100
        names = Names.family("ab", "ab", "a")
        self.assertIn(text + "aba", text + names)
        self.assertNotIn("aba" + text, text + names)
        self.assertEqual(text + names, Names.family("ab", "ab", "a", 100))
        self.assertIn("aba" + text, names + text)
        self.assertNotIn(text + "aba", names + text)
        self.assertEqual((names + text).least, "a" + text)
        self.assertEqual(names // text, names)
        self.assertEqual((text + names) // text, names)
        for made in (text + names, names + text, names + "a" * 200):
            self.assert_table(made, "ab")

    def test_texts_that_are_none(self):
        names = Names.beginning("ab", "a")
        for value in no_strings() + ["c", "ab ", "@", Made("a")]:
            self.assert_no_text(value, lambda: names + value)
            self.assert_no_text(value, lambda: value + names)
            self.assert_no_text(value, lambda: names // value)

    def test_another_set_is_no_text(self):
        names = Names.beginning("ab", "a")
        self.assert_no_text(names, lambda: Names.every("ab") + names)

    def test_comparisons(self):
        for letters in ("ab", "-/0a"):
            rows = [names for names, _ in some_sets(letters, 25, 18)] + [Names.none(letters), Names.every(letters)]
            for one in rows:
                for other in rows:
                    is_within = not (one - other)
                    is_same = is_within and not (other - one)
                    self.assertIs(one <= other, is_within)
                    self.assertIs(other >= one, is_within)
                    self.assertIs(one < other, is_within and not is_same)
                    self.assertIs(other > one, is_within and not is_same)
                    self.assertIs(one == other, is_same)
                    self.assertIs(one != other, not is_same)

    def test_comparisons_of_small_sets(self):
        few = [set(), {""}, {"a"}, {"", "a"}, {"b", "ab"}, {"", "a", "b", "ab"}]
        for one in few:
            for other in few:
                names, others = Names.of("ab", list(one)), Names.of("ab", list(other))
                self.assertEqual((names <= others, names < others), (one <= other, one < other))
                self.assertEqual((names >= others, names > others), (one >= other, one > other))
                self.assertEqual(names == others, one == other)

    def test_other_letters(self):
        one, other = Names.every("ab"), Names.every("abc")
        for call in (
            lambda: one & other, lambda: one | other, lambda: one - other, lambda: one ^ other,
            lambda: one <= other, lambda: one < other, lambda: one >= other, lambda: one > other,
        ):
            with self.assertRaises(Mismatch) as caught:
                call()
            self.assertIs(type(caught.exception), Mismatch)
        self.assertIs(one == other, False)
        self.assertIs(one != other, True)
        self.assertIs(Names.none("ab") == Names.none("ac"), False)

    def test_equal_to_nothing_else(self):
        names = Names.of("ab", ["a"])
        for value in no_strings() + ["a", names.table, [names], Made("a")]:
            self.assertIs(names == value, False)
            self.assertIs(value == names, False)
            self.assertIs(names != value, True)

    def test_values_that_are_no_names(self):
        for names in (Names.every("ab"), Names.none("ab"), Names.of("ab", ["a"])):
            for value in no_strings() + ["c", "a ", "aB", names, Made("a")]:
                self.assertIs(value in names, False)

    def test_truth(self):
        self.assertIs(bool(Names.none("ab")), False)
        self.assertIs(bool(Names.every("ab") - Names.every("ab")), False)
        self.assertIs(bool(Names.of("ab", [])), False)
        for names in (Names.every("ab"), Names.of("ab", [""]), Names.of("ab", ["ab" * 90]), Names.family("ab", "a", "b", 40)):
            self.assertIs(bool(names), True)


class CountingTest(NamesTest):
    """[17]: names by number, sizes and counts."""

    def test_against_all_short_names(self):
        for letters in SHORT:
            for names, is_in in some_sets(letters, 40, 19):
                short = [name for name in short_names(letters) if is_in(name)]
                for number, name in enumerate(short):
                    self.assertEqual(names[number], name)
                for length in range(SHORT[letters] + 1):
                    self.assertEqual(names.many(length), len([name for name in short if len(name) == length]))
                self.assertEqual(names.least, names[0] if names else None)
                if short:
                    self.assertEqual(names.least, short[0])

    def test_finite_sets(self):
        for some in ([], [""], ["a"], ["b", "", "ab"], ["ab" * 60, "ba" * 60], texts_up_to("ab", 4)):
            names = Names.of("ab", some)
            self.assertEqual(names.size, len(some))
            self.assertEqual([names[number] for number in range(len(some))], ascending(some))
            self.assertEqual(names.least, ascending(some)[0] if some else None)
            self.assert_no_name(names, len(some))
            self.assert_no_name(names, 10**30)
            self.assert_no_name(names, -1)
            for length in (0, 1, 2, 120, 300):
                self.assertEqual(names.many(length), len([name for name in some if len(name) == length]))

    def test_endless_sets(self):
        every = Names.every("ab")
        for names in (every, Names.beginning("ab", "ab" * 20), Names.family("ab", "ab", ""), ~Names.of("ab", ["a"])):
            self.assertIsNone(names.size)
            self.assert_no_name(names, -1)
            self.assert_no_name(names, -(10**30))

    def test_sets_that_are_endless_behind_states_without_names(self):
        # The machine goes around where no name of the set can come any more.
        names = Names.of("ab", ["ab", "aab"]) & ~Names.beginning("ab", "b")
        self.assertEqual(names.size, 2)
        self.assertEqual((Names.every("ab") - Names.every("ab")).size, 0)

    def test_finite_sets_of_many_names(self):
        every = Names.every("abcde")
        behind = every
        for _ in range(50):
            behind = Names.of("abcde", [""]) | ("a" + behind) | ("b" + behind) | ("c" + behind) | ("d" + behind) | ("e" + behind)
        self.assertEqual(behind, every)
        short = Names.of("abcde", [""])
        for _ in range(50):
            short = Names.of("abcde", [""]) | ("a" + short) | ("b" + short) | ("e" + short)
        size = sum(3**length for length in range(51))
        self.assertEqual(short.size, size)
        self.assertEqual(short[size - 1], "e" * 50)
        self.assertEqual((short.many(50), short.many(51)), (3**50, 0))
        self.assert_no_name(short, size)

    def test_long_names(self):
        for letters in ("ab", "abcde"):
            every = Names.every(letters)
            before = sum(len(letters)**length for length in range(300))
            self.assertEqual(every[before], letters[0] * 300)
            self.assertEqual(every[before - 1], letters[-1] * 299)
            self.assertEqual(every[before + len(letters)**300 - 1], letters[-1] * 300)
            self.assertEqual((every.many(0), every.many(300)), (1, len(letters)**300))
            behind = every + "ab"
            self.assertEqual((behind.many(1), behind.many(300)), (0, len(letters)**298))
            self.assertEqual(behind[sum(len(letters)**length for length in range(298))], letters[0] * 298 + "ab")

    def test_machines_of_sixty_states(self):
        names = Names.family("abcde", "abcabc", "edcba", 8) | ("e" * 40 + Names.every("abcde"))
        self.assertEqual(names[0], "e" * 40)
        self.assertEqual(names.many(300), 5**260)
        self.assertEqual(names.many(59), 5**19 + 1)
        self.assertEqual(len(names[5**200]), 240)

    def test_numbers_and_names_lead_to_one_another(self):
        for names, _ in some_sets("-/0a", 30, 20):
            if names.size is None:
                found = [names[number] for number in range(60)]
                self.assertEqual(found, ascending(found))
                self.assertEqual(len(set(found)), 60)
                self.assertTrue(all(name in names for name in found))

    def test_sets_are_not_iterable(self):
        for names in (Names.every("ab"), Names.none("ab"), Names.of("ab", ["a"])):
            with self.assertRaises(TypeError):
                iter(names)
            with self.assertRaises(TypeError):
                list(names)

    def test_parameter_names(self):
        self.assertEqual(Names.every("ab").many(length=3), 8)

    def assert_no_name(self, names, number):
        with self.assertRaises(NoName) as caught:
            names[number]
        self.assertIs(type(caught.exception), NoName)
        self.assertEqual(caught.exception.number, number)

    def test_methods_stand_in_the_class(self):
        self.assertLessEqual(
            {
                "none", "every", "of", "beginning", "family", "size", "least", "many", "__and__", "__or__", "__sub__",
                "__xor__", "__invert__", "__le__", "__lt__", "__ge__", "__gt__", "__eq__", "__add__", "__radd__",
                "__floordiv__", "__contains__", "__bool__", "__getitem__", "__iter__",
            },
            set(vars(Names)),
        )
        self.assertIsInstance(vars(Names)["size"], property)
        self.assertIsInstance(vars(Names)["least"], property)


if __name__ == "__main__":
    unittest.main()
