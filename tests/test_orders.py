import random
import unittest

from tests.any_values import ascending, long_names, texts_up_to
from tests.some_bounds import KINDS, random_bounds
from undername.bounds import Bound
from undername.errors import Mismatch
from undername.made import Made, word_of
from undername.names import Names
from undername.orders import classes, order, told_name, told_names
from undername.texts import room

SHORT = {"ab": 6, "abc": 4, "-/0a": 3, "abcde": 3}


def plain_order(letters, bounds, name, most):
    """The order of [22], found with the places of the bounds."""
    places = [bound.placed(letters, name) for bound in bounds]
    # None is after all texts.
    different = sorted(set(places) - {None}) + ([None] if None in places else [])
    rooms = []
    for low, high in zip(different, different[1:]):
        many = room(letters, low, high)
        rooms.append(most if many is None else min(many, most))
    return tuple(different.index(place) for place in places), tuple(rooms)


def some_rows(count, seed):
    """Letters, bounds and `most`, at random."""
    source = random.Random(seed)
    rows = []
    for _ in range(count):
        letters = source.choice(["ab", "ab", "abc", "-/0a", "abcde"])
        bounds = random_bounds(source, letters, source.randint(0, 6))
        rows.append((letters, bounds, source.randint(0, 5)))
    return rows


def names_to_try(letters, bounds, seed):
    """All short names, and such as lie on a word for long."""
    mades = [bound.made for bound in bounds if bound.made is not None]
    words = [word_of(one, other) for one in mades for other in mades]
    words = [word for word in words if word is not None] + [letters[0], letters[-1]]
    return texts_up_to(letters, SHORT[letters]) + long_names(random.Random(seed), letters, words, 25)


class OrderTest(unittest.TestCase):
    """[22]: ranks and rooms."""

    def test_example(self):
        bounds = [Bound.ahead(Made("a@")), Bound.ahead(Made("@a"))]
        self.assertEqual(order("ab", bounds, "b"), ((0, 1), (1,)))
        self.assertEqual(order("ab", bounds, "aa"), ((0, 0), ()))

    def test_no_bounds(self):
        for most in range(6):
            self.assertEqual(order("ab", [], "ab", most=most), ((), ()))

    def test_rooms(self):
        bounds = [Bound.ahead(Made("@aaa")), Bound.ahead(Made("@")), Bound.behind(Made("@")), Bound.past(Made("@"))]
        for most, rooms in ((0, (0, 0, 0)), (1, (1, 1, 1)), (2, (1, 2, 2)), (3, (1, 2, 3)), (5, (1, 2, 5))):
            self.assertEqual(order("ab", bounds, "a", most=most), ((2, 0, 1, 3), rooms))

    def test_most_is_one(self):
        bounds = [Bound.ahead(Made("@aaa")), Bound.ahead(Made("@"))]
        self.assertEqual(order("ab", bounds, "a"), order("ab", bounds, "a", most=1))

    def test_end_is_after_all(self):
        bounds = [Bound.end(), Bound.ahead(Made("@")), Bound.past(Made("@")), Bound.end()]
        self.assertEqual(order("ab", bounds, "b", most=4), ((1, 0, 1, 1), (4,)))
        self.assertEqual(order("ab", bounds, "a", most=4), ((2, 0, 1, 2), (4, 4)))
        self.assertEqual(order("ab", [Bound.end()], "a"), ((0,), ()))
        self.assertEqual(order("ab", [Bound.end(), Bound.past(Made())], "a"), ((0, 0), ()))

    def test_same_bounds_have_the_same_rank(self):
        bounds = [Bound.ahead(Made("a")), Bound.ahead(Made("@")), Bound.ahead(Made("a"))]
        self.assertEqual(order("ab", bounds, "b"), ((0, 1, 0), (1,)))
        self.assertEqual(order("ab", bounds, "a"), ((0, 0, 0), ()))

    def test_against_the_places(self):
        for letters, bounds, most in some_rows(150, 22):
            for name in names_to_try(letters, bounds, 23):
                self.assertEqual(order(letters, bounds, name, most=most), plain_order(letters, bounds, name, most))

    def test_kinds_of_the_result(self):
        ranks, rooms = order("ab", (Bound.ahead(Made("@")), Bound.end()), "a")
        self.assertIsInstance(ranks, tuple)
        self.assertIsInstance(rooms, tuple)

    def test_parameter_names(self):
        bounds = [Bound.ahead(Made("@aa")), Bound.ahead(Made("@"))]
        self.assertEqual(order(letters="ab", bounds=bounds, name="b", most=2), ((1, 0), (2,)))

    def test_most_is_by_name_only(self):
        for call in (
            lambda: order("ab", [], "a", 2), lambda: told_names("ab", [], 2),
            lambda: told_name("ab", [], "a", 2), lambda: classes("ab", [], 2),
        ):
            with self.assertRaises(TypeError):
                call()


class ToldNamesTest(unittest.TestCase):
    """[23]: told names and classes."""

    def test_example(self):
        bounds = [Bound.ahead(Made("a@")), Bound.ahead(Made("@a"))]
        self.assertEqual(told_names("ab", bounds), ("", "b"))

    def test_one_order_alone(self):
        for bounds in ([], [Bound.end()], [Bound.ahead(Made("@"))], [Bound.ahead(Made("@a")), Bound.ahead(Made("@b"))]):
            self.assertEqual(told_names("ab", bounds), ("",))
            self.assertEqual(told_name("ab", bounds, "abba"), "")
            self.assertEqual(classes("ab", bounds), (("", Names.every("ab")),))

    def test_small_lists(self):
        ahead, past = Bound.ahead(Made("b")), Bound.past(Made("@"))
        self.assertEqual(told_names("ab", [Bound.ahead(Made("@")), Bound.ahead(Made("ab"))]), ("", "b", "ab"))
        # Behind the name there is "b" for each name that is an "a" with greatest letters behind it.
        self.assertEqual(told_names("ab", [past, ahead]), ("", "a", "aa"))
        self.assertEqual(dict(classes("ab", [past, ahead]))["a"], "a" + Names.family("ab", "b", ""))
        # Three texts or more are as many as endlessly many.
        self.assertEqual(told_names("ab", [Bound.ahead(Made()), Bound.ahead(Made("@"))], most=3), ("", "a", "b", "aa"))

    def test_most_is_one(self):
        bounds = [Bound.ahead(Made("@")), Bound.ahead(Made())]
        self.assertEqual(told_names("ab", bounds), ("", "a"))
        self.assertEqual(told_names("ab", bounds, most=2), ("", "a", "b"))
        self.assertEqual(told_name("ab", bounds, "bb"), "a")
        self.assertEqual(told_name("ab", bounds, "bb", most=2), "b")
        self.assertEqual(classes("ab", bounds), (("", Names.of("ab", [""])), ("a", ~Names.of("ab", [""]))))

    def test_told_names_are_the_first_of_each_order(self):
        for letters, bounds, most in some_rows(250, 231):
            told = told_names(letters, bounds, most=most)
            self.assertIsInstance(told, tuple)
            self.assertEqual(list(told), ascending(told))
            told_of = {order(letters, bounds, name, most=most): name for name in told}
            self.assertEqual(len(told_of), len(told))
            met = {}
            for name in texts_up_to(letters, SHORT[letters]):
                name_order = order(letters, bounds, name, most=most)
                met.setdefault(name_order, name)
                self.assertEqual(told_of[name_order], met[name_order])

    def test_long_names_have_the_order_of_a_told_one(self):
        for letters, bounds, most in some_rows(250, 232):
            told = told_names(letters, bounds, most=most)
            told_of = {order(letters, bounds, name, most=most): name for name in told}
            for name in names_to_try(letters, bounds, 233)[-25:]:
                self.assertIn(order(letters, bounds, name, most=most), told_of)

    def test_told_name_of_a_name(self):
        for letters, bounds, most in some_rows(40, 234):
            told = told_names(letters, bounds, most=most)
            told_of = {order(letters, bounds, name, most=most): name for name in told}
            for name in names_to_try(letters, bounds, 235)[::9]:
                found = told_name(letters, bounds, name, most=most)
                self.assertEqual(found, told_of[order(letters, bounds, name, most=most)])

    def test_classes_part_all_names(self):
        for letters, bounds, most in some_rows(120, 236):
            rows = classes(letters, bounds, most=most)
            self.assertIsInstance(rows, tuple)
            self.assertEqual(tuple(told for told, _ in rows), told_names(letters, bounds, most=most))
            union = Names.none(letters)
            for told, names in rows:
                self.assertIsInstance(names, Names)
                self.assertEqual(names.letters, letters)
                self.assertEqual(names.least, told)
                self.assertFalse(union & names)
                union |= names
            self.assertEqual(union, Names.every(letters))
            orders = {order(letters, bounds, told, most=most): names for told, names in rows}
            for name in names_to_try(letters, bounds, 237):
                self.assertIn(name, orders[order(letters, bounds, name, most=most)])

    def test_no_told_name_is_too_long(self):
        for letters, bounds, most in some_rows(150, 238):
            sizes = [len(bound.made) - bound.made.marks for bound in bounds if bound.made is not None]
            longest = 8 * max([1] + sizes) + 4 * most + 8
            self.assertLessEqual(max(len(name) for name in told_names(letters, bounds, most=most)), longest)

    def test_lists_of_the_greatest_sizes(self):
        source = random.Random(239)
        for texts in (
            ["@abab", "ab@ab", "@@", "a@b", "@", ""], ["aaaaaaaa@", "@", "@@", "@@@", "@@@@", ""],
            ["aba@b@", "@a@bab", "", "@", "@@", "@@@"], ["@baba", "baba@", "@@@@", "@@@", "@@", "@"],
            ["@b", "@bb", "@bbb", "b@", "bb@", "@"], ["abababab", "@", "@@", "@@@", "@@@@", ""],
        ):
            for most in (0, 1, 5):
                bounds = [Bound(source.choice(KINDS), Made(text)) for text in texts]
                told = told_names("abcde", bounds, most=most)
                told_of = {order("abcde", bounds, name, most=most): name for name in told}
                self.assertEqual(len(told_of), len(told))
                words = ["a", "b", "ab", "ba", "baba", "aba", "e"]
                for name in texts_up_to("abe", 4) + long_names(source, "abe", words, 60):
                    self.assertIn(order("abcde", bounds, name, most=most), told_of)

    def test_what_is_handed_in_stays(self):
        bounds = [Bound.ahead(Made("a@")), Bound.past(Made("@a")), Bound.end(), Bound.ahead(Made("a@"))]
        kept = list(bounds)
        for call in (
            lambda: order("ab", bounds, "b"), lambda: told_names("ab", bounds, most=2),
            lambda: told_name("ab", bounds, "bb", most=2), lambda: classes("ab", bounds, most=2),
        ):
            self.assertEqual(call(), call())
            self.assertEqual(len(bounds), len(kept))
            self.assertTrue(all(one is other for one, other in zip(bounds, kept)))

    def test_later_changes_have_no_effect(self):
        bounds = [Bound.ahead(Made("a@")), Bound.ahead(Made("@a"))]
        rows = classes("ab", bounds)
        bounds.clear()
        self.assertEqual(rows[0][1], Names.family("ab", "a", ""))

    def test_tuples_of_bounds(self):
        bounds = [Bound.ahead(Made("a@")), Bound.behind(Made("@a"))]
        self.assertEqual(told_names("ab", tuple(bounds)), told_names("ab", bounds))
        self.assertEqual(classes("ab", tuple(bounds)), classes("ab", bounds))

    def test_other_letters(self):
        source = random.Random(24)
        for _ in range(20):
            bounds = random_bounds(source, "ab", 3)
            bounds.insert(source.randint(0, 3), Bound(source.choice(KINDS), Made("a@c")))
            for call in (
                lambda: order("ab", bounds, "a"), lambda: told_names("ab", bounds),
                lambda: told_name("ab", bounds, "a"), lambda: classes("ab", bounds),
            ):
                with self.assertRaises(Mismatch) as caught:
                    call()
                self.assertIs(type(caught.exception), Mismatch)

    def test_parameter_names(self):
        bounds = [Bound.ahead(Made()), Bound.ahead(Made("@"))]
        told = told_names(letters="ab", bounds=bounds, most=2)
        self.assertEqual(told, ("", "a", "b"))
        self.assertEqual(told_name(letters="ab", bounds=bounds, name="aaaa", most=2), "b")
        self.assertEqual(tuple(name for name, _ in classes(letters="ab", bounds=bounds, most=2)), told)


if __name__ == "__main__":
    unittest.main()
