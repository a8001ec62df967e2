import random
import unittest

from tests.any_values import no_strings, random_text
from undername.errors import InvalidLetters, NoKey, NoText, NoValue
from undername.stores import Store

NO_VALUES = [-1, -(10**30), True, False, None, "", "1", [], (), [1], (0,), [[0]]]


class PlainStore:
    """A store by the words of [28] and [29], with a plain dict."""

    def __init__(self, table):
        self.table = dict(table)

    def keys(self, low, high, after):
        return [
            key for key in sorted(self.table)
            if key >= low and (high is None or key < high) and (after is None or key > after)
        ]

    def pairs(self, low, high, after):
        return [(key, self.table[key]) for key in self.keys(low, high, after)]


class StoreTest(unittest.TestCase):
    """[28]: a store is a table from keys to values."""

    def test_pairs_are_set_in_order(self):
        store = Store("ab", [("b", 2), ("a", 1), ("b", 3), ("", 0)])
        self.assertEqual(store.pairs(), [("", 0), ("a", 1), ("b", 3)])
        self.assertEqual(Store("ab", (("a", 1),)).pairs(), [("a", 1)])
        self.assertEqual(Store("ab").pairs(), [])
        self.assertEqual(Store("ab", ()).letters, "ab")

    def test_attributes_are_set_at_once(self):
        self.assertIn("letters", vars(Store("ab")))
        self.assertIn("letters", vars(Store("ab").copied()))

    def test_setting_and_reading(self):
        store = Store("ab")
        for key, value in (("", 0), ("ab", 5), ("a" * 200, 10**18 - 1), ("ab", 6)):
            store[key] = value
            self.assertEqual(store[key], value)
            self.assertIs(key in store, True)
        self.assertEqual(len(store), 3)

    def test_letters_that_are_none(self):
        for letters in no_strings() + ["", "a", "ba", "aa", "abcdef", "a@", "AB"]:
            with self.assertRaises(InvalidLetters) as caught:
                Store(letters, [(7, 7)])
            self.assertIs(type(caught.exception), InvalidLetters)

    def test_keys_that_are_none(self):
        for key in no_strings() + ["c", "a ", "@", "!"]:
            store = Store("ab", [("a", 1)])
            for value in (1, -1, None):
                with self.assertRaises(NoText) as caught:
                    store[key] = value
                self.assertIs(type(caught.exception), NoText)
                self.assertIs(caught.exception.value, key)
                with self.assertRaises(NoText) as caught:
                    Store("ab", [("a", 1), (key, value), ("b", -1)])
                self.assertIs(caught.exception.value, key)
            self.assertEqual(store.pairs(), [("a", 1)])

    def test_values_that_are_none(self):
        for value in NO_VALUES:
            store = Store("ab", [("a", 1)])
            for key in ("a", "b"):
                with self.assertRaises(NoValue) as caught:
                    store[key] = value
                self.assertIs(type(caught.exception), NoValue)
                self.assertIs(caught.exception.value, value)
                with self.assertRaises(NoValue) as caught:
                    Store("ab", [("a", 1), (key, value), (7, 1)])
                self.assertIs(caught.exception.value, value)
            self.assertEqual(store.pairs(), [("a", 1)])

    def test_pair_by_pair(self):
        with self.assertRaises(NoValue):
            Store("ab", [("a", -1), ("c", 1)])
        with self.assertRaises(NoText):
            Store("ab", [("c", 1), ("a", -1)])

    def test_no_such_key(self):
        store = Store("ab", [("a", 1)])
        for key in no_strings() + ["", "b", "aa", "c", "@"]:
            with self.assertRaises(NoKey) as caught:
                store[key]
            self.assertIs(type(caught.exception), NoKey)
            self.assertIs(caught.exception.key, key)
            self.assertIs(key in store, False)
            self.assertIs(key not in store, True)
        with self.assertRaises(KeyError):
            store["b"]

    def test_equality(self):
        store = Store("ab", [("a", 1), ("b", 2)])
        self.assertIs(store == Store("ab", [("b", 2), ("a", 1)]), True)
        self.assertIs(store != Store("ab", [("b", 2), ("a", 1)]), False)
        for other in (
            Store("ab"), Store("ab", [("a", 1)]), Store("ab", [("a", 1), ("b", 3)]), Store("ab", [("a", 1), ("ba", 2)]),
            Store("abc", [("a", 1), ("b", 2)]), Store("ab", [("a", 1), ("b", 2), ("", 0)]),
        ):
            self.assertIs(store == other, False)
            self.assertIs(other == store, False)
            self.assertIs(store != other, True)
        self.assertIs(Store("ab") == Store("ac"), False)

    def test_equal_to_nothing_else(self):
        for store in (Store("ab"), Store("ab", [("a", 1)])):
            for value in no_strings() + ["", {}, {"a": 1}, [("a", 1)]]:
                self.assertIs(store == value, False)
                self.assertIs(value == store, False)
                self.assertIs(store != value, True)

    def test_stores_are_not_iterable(self):
        for store in (Store("ab"), Store("ab", [("a", 1)])):
            with self.assertRaises(TypeError):
                iter(store)
            with self.assertRaises(TypeError):
                list(store)

    def test_arguments_stay(self):
        pairs = [("a", 1), ("b", 2)]
        store = Store("ab", pairs)
        store["a"] = 5
        self.assertEqual(pairs, [("a", 1), ("b", 2)])
        pairs.append(("", 0))
        self.assertEqual(store.pairs(), [("a", 5), ("b", 2)])

    def test_parameter_names(self):
        self.assertEqual(Store(letters="ab", pairs=[("a", 1)]), Store("ab", [("a", 1)]))

    def test_methods_stand_in_the_class(self):
        self.assertLessEqual(
            {
                "__init__", "__getitem__", "__setitem__", "__contains__", "__len__", "__eq__", "__iter__", "pairs", "page",
                "take", "fill", "copied", "trial", "within",
            },
            set(vars(Store)),
        )


class StretchTest(unittest.TestCase):
    """[29]: stretches of a store."""

    def store(self):
        return Store("ab", [("b", 4), ("", 0), ("ab", 3), ("aa", 2), ("a", 1), ("bb", 5)])

    def test_pairs(self):
        store = self.store()
        every = [("", 0), ("a", 1), ("aa", 2), ("ab", 3), ("b", 4), ("bb", 5)]
        self.assertEqual(store.pairs(), every)
        self.assertEqual(store.pairs("a"), every[1:])
        self.assertEqual(store.pairs("a", "ab"), every[1:3])
        self.assertEqual(store.pairs("aaa", "b"), every[3:4])
        self.assertEqual(store.pairs("", ""), [])
        self.assertEqual(store.pairs("b", "a"), [])
        self.assertEqual(store.pairs("b", None), every[4:])
        self.assertEqual(store.pairs("bab"), every[5:])
        self.assertEqual(store.pairs("bba"), [])
        self.assertEqual(store.pairs(after="a"), every[2:])
        self.assertEqual(store.pairs(after="aab"), every[3:])
        self.assertEqual(store.pairs("ab", after="a"), every[3:])
        self.assertEqual(store.pairs("a", "b", after="aa"), every[3:4])
        self.assertEqual(store.pairs(after="bb"), [])
        self.assertEqual(store.pairs(after=""), every[1:])

    def test_page(self):
        store = self.store()
        for count in range(8):
            self.assertEqual(store.page(count), store.pairs()[:count])
            self.assertEqual(store.page(count, "a", "b"), store.pairs("a", "b")[:count])
            self.assertEqual(store.page(count, "a", after="aa"), store.pairs("a", after="aa")[:count])
            self.assertEqual(store.page(count, "b", "a"), [])

    def test_take(self):
        for low, high, after, left in (
            ("", None, None, []), ("a", "b", None, ["", "b", "bb"]), ("a", "b", "a", ["", "a", "b", "bb"]),
            ("b", "a", None, ["", "a", "aa", "ab", "b", "bb"]), ("ba", None, None, ["", "a", "aa", "ab", "b"]),
            ("", None, "b", ["", "a", "aa", "ab", "b"]),
        ):
            store = self.store()
            self.assertEqual(store.take(low, high, after=after), 6 - len(left))
            self.assertEqual([key for key, _ in store.pairs()], left)
            self.assertEqual(len(store), len(left))

    def test_fill(self):
        store = self.store()
        self.assertEqual(store.fill(9, "a", "b"), 3)
        self.assertEqual(store.pairs(), [("", 0), ("a", 9), ("aa", 9), ("ab", 9), ("b", 4), ("bb", 5)])
        self.assertEqual(store.fill(7, "", None, after="ab"), 2)
        self.assertEqual(store.pairs("ab"), [("ab", 9), ("b", 7), ("bb", 7)])
        self.assertEqual(store.fill(8, "b", "a"), 0)
        self.assertEqual(store.fill(0, "", None), 6)
        self.assertEqual({value for _, value in store.pairs()}, {0})

    def test_fill_with_no_value(self):
        for value in NO_VALUES:
            for low, high in (("", None), ("b", "a")):
                store = self.store()
                with self.assertRaises(NoValue) as caught:
                    store.fill(value, low, high)
                self.assertIs(type(caught.exception), NoValue)
                self.assertIs(caught.exception.value, value)
                self.assertEqual(store, self.store())

    def test_copied(self):
        store = self.store()
        copy = store.copied()
        self.assertIsInstance(copy, Store)
        self.assertEqual(copy, store)
        copy["a"] = 77
        copy.take("b", None)
        self.assertEqual(store, self.store())
        store["ba"] = 1
        self.assertNotIn("ba", copy)

    def test_returned_lists_are_new(self):
        store = self.store()
        store.pairs().clear()
        store.page(3).clear()
        self.assertEqual(store, self.store())
        self.assertIsInstance(store.pairs(), list)
        self.assertIsInstance(store.page(1), list)
        self.assertIsInstance(store.pairs()[0], tuple)

    def test_after_is_by_name_only(self):
        store = self.store()
        for call in (
            lambda: store.pairs("", None, "a"), lambda: store.page(1, "", None, "a"),
            lambda: store.take("", None, "a"), lambda: store.fill(1, "", None, "a"),
        ):
            with self.assertRaises(TypeError):
                call()
        self.assertEqual(store, self.store())

    def test_parameter_names(self):
        store = self.store()
        self.assertEqual(store.pairs(low="a", high="b", after="a"), [("aa", 2), ("ab", 3)])
        self.assertEqual(store.page(count=1, low="a", high="b", after="a"), [("aa", 2)])
        self.assertEqual(store.fill(value=6, low="a", high="b", after="a"), 2)
        self.assertEqual(store.take(low="a", high="b", after="aa"), 1)
        self.assertEqual(store.within(work=len), 5)

    def test_against_a_plain_dict(self):
        for seed in range(12):
            source = random.Random(seed)
            letters = source.choice(["ab", "-/0a"])
            store, plain = Store(letters), PlainStore({})
            for _ in range(300):
                self.do_one_deed(source, letters, store, plain)
                self.assertEqual(len(store), len(plain.table))
                self.assertEqual(store.pairs(), sorted(plain.table.items()))
            self.assertEqual(store, Store(letters, list(plain.table.items())))

    def do_one_deed(self, source, letters, store, plain):
        low, high, after = [random_text(source, letters, 3) for _ in range(3)]
        high = source.choice([high, high, None])
        after = source.choice([after, None, None])
        deed = source.randint(0, 9)
        value = source.randint(0, 5)
        if deed < 5:
            store[low] = value
            plain.table[low] = value
        elif deed == 5:
            self.assertEqual(low in store, low in plain.table)
            if low in plain.table:
                self.assertEqual(store[low], plain.table[low])
        elif deed == 6:
            self.assertEqual(store.pairs(low, high, after=after), plain.pairs(low, high, after))
        elif deed == 7:
            self.assertEqual(store.page(value, low, high, after=after), plain.pairs(low, high, after)[:value])
        elif deed == 8 and value < 2:
            taken = plain.keys(low, high, after)
            self.assertEqual(store.take(low, high, after=after), len(taken))
            for key in taken:
                del plain.table[key]
        else:
            filled = plain.keys(low, high, after)
            self.assertEqual(store.fill(value, low, high, after=after), len(filled))
            for key in filled:
                plain.table[key] = value

    def test_a_hundred_keys(self):
        source = random.Random(100)
        plain = PlainStore({random_text(source, "abcde", 200): at for at in range(100)})
        store = Store("abcde", list(plain.table.items()))
        self.assertEqual(store.pairs("b", "d", after="bb"), plain.pairs("b", "d", "bb"))
        self.assertEqual(store.take("b", "d"), len(plain.keys("b", "d", None)))


class TrialTest(unittest.TestCase):
    """[29]: trials, behind which a store is as before."""

    def store(self):
        return Store("ab", [("a", 1), ("b", 2), ("bb", 3)])

    def change(self, store):
        store["a"] = 8
        store["ab"] = 9
        store.take("b", "ba")
        store.fill(4, "bb", None)

    def test_the_value_is_the_store(self):
        store = self.store()
        with store.trial() as held:
            self.assertIs(held, store)

    def test_changes_are_taken_back(self):
        store = self.store()
        with store.trial():
            self.change(store)
            self.assertEqual(store.pairs(), [("a", 8), ("ab", 9), ("bb", 4)])
        self.assertEqual(store, self.store())
        self.assertEqual(store.pairs(), self.store().pairs())
        self.assertEqual(len(store), 3)

    def test_the_store_as_it_was_when_it_was_entered(self):
        store = self.store()
        trial = store.trial()
        store["a"] = 7
        with trial:
            store["a"] = 8
        self.assertEqual(store["a"], 7)

    def test_an_error_goes_on(self):
        store = self.store()
        error = RuntimeError("goes on")
        with self.assertRaises(RuntimeError) as caught:
            with store.trial():
                self.change(store)
                raise error
        self.assertIs(caught.exception, error)
        self.assertEqual(store, self.store())
        with self.assertRaises(NoText):
            with store.trial():
                store["a"] = 5
                store["c"] = 5
        self.assertEqual(store, self.store())

    def test_one_within_another(self):
        store = self.store()
        with store.trial():
            store["aa"] = 1
            with store.trial() as held:
                self.assertIs(held, store)
                store.take("", None)
                with store.trial():
                    store["b"] = 77
                self.assertEqual(len(store), 0)
                store["bab"] = 4
            self.assertEqual(store.pairs(), [("a", 1), ("aa", 1), ("b", 2), ("bb", 3)])
            store["b"] = 6
            with store.trial():
                pass
            self.assertEqual(store["b"], 6)
        self.assertEqual(store, self.store())

    def test_one_behind_another(self):
        store = self.store()
        for _ in range(3):
            with store.trial():
                self.change(store)
            self.assertEqual(store, self.store())
        store["b"] = 5
        with store.trial():
            self.change(store)
        self.assertEqual(store["b"], 5)

    def test_left_by_return(self):
        store = self.store()

        def left():
            with store.trial():
                store["a"] = 8
                return store["a"]

        self.assertEqual(left(), 8)
        self.assertEqual(store, self.store())

    def test_copies_from_within_stay(self):
        store = self.store()
        with store.trial():
            self.change(store)
            copy = store.copied()
        self.assertEqual(copy.pairs(), [("a", 8), ("ab", 9), ("bb", 4)])
        store["b"] = 1
        self.assertNotIn("b", copy)

    def test_each_trial_is_new(self):
        store = self.store()
        self.assertIsNot(store.trial(), store.trial())

    def test_within(self):
        store = self.store()
        held = []

        def work(some):
            held.append(some)
            self.change(some)
            return some.pairs()

        self.assertEqual(store.within(work), [("a", 8), ("ab", 9), ("bb", 4)])
        self.assertIs(held[0], store)
        self.assertEqual(store, self.store())
        self.assertIsNone(store.within(lambda some: some.take("", None) and None))
        self.assertEqual(store, self.store())

    def test_within_and_an_error(self):
        store = self.store()

        def work(some):
            self.change(some)
            return some["bab"]

        with self.assertRaises(NoKey):
            store.within(work)
        self.assertEqual(store, self.store())

    def test_within_another_within(self):
        store = self.store()
        self.assertEqual(store.within(lambda some: (some.take("b", None), some.within(len), len(some))), (2, 1, 1))
        self.assertEqual(store.within(lambda some: (some.within(lambda more: more.take("", None)), len(some))), (3, 3))
        self.assertEqual(store, self.store())


if __name__ == "__main__":
    unittest.main()
