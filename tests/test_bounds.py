import random
import unittest

from tests.any_values import no_strings, random_made, random_text, texts_up_to
from undername.bounds import Bound
from undername.errors import InvalidBound, Mismatch
from undername.made import Made

KINDS = ("from", "behind", "past")


class BoundTest(unittest.TestCase):
    """[20]: what a bound is."""

    def test_kinds(self):
        made = Made("a@")
        for kind in KINDS:
            bound = Bound(kind, made)
            self.assertEqual(bound.kind, kind)
            self.assertIs(bound.made, made)
        self.assertEqual(Bound("end").kind, "end")
        self.assertIsNone(Bound("end").made)
        self.assertIsNone(Bound("end", None).made)

    def test_attributes_are_set_at_once(self):
        for bound in (Bound("from", Made()), Bound.end(), Bound.past(Made("@"))):
            self.assertLessEqual({"kind", "made"}, set(vars(bound)))

    def test_class_methods(self):
        made = Made("@/")
        for bound, kind in ((Bound.ahead(made), "from"), (Bound.behind(made), "behind"), (Bound.past(made), "past")):
            self.assertIsInstance(bound, Bound)
            self.assertEqual(bound.kind, kind)
            self.assertIs(bound.made, made)
        self.assertEqual((Bound.end().kind, Bound.end().made), ("end", None))

    def test_other_kinds(self):
        for kind in no_strings() + ["", "From", "ahead", "under", "ends", "end ", "from @", "fro", "to"]:
            self.assert_invalid(kind, Made("a"))
            self.assert_invalid(kind, None)

    def test_no_made_text(self):
        for kind in KINDS:
            for made in no_strings() + ["", "a", "@", Bound.end()]:
                self.assert_invalid(kind, made)
            with self.assertRaises(InvalidBound):
                Bound(kind)

    def test_end_with_a_made_text(self):
        for made in [Made(), Made("a@"), "", "a"] + [value for value in no_strings() if value is not None]:
            self.assert_invalid("end", made)

    def test_class_methods_refuse_what_is_no_made_text(self):
        for call in (Bound.ahead, Bound.behind, Bound.past):
            for made in no_strings() + ["a@"]:
                with self.assertRaises(InvalidBound):
                    call(made)

    def assert_invalid(self, kind, made):
        with self.assertRaises(InvalidBound) as caught:
            Bound(kind, made)
        self.assertIs(type(caught.exception), InvalidBound)

    def test_text(self):
        for text in ("", "@", "u/@", "ab"):
            made = Made(text)
            self.assertEqual(str(Bound.ahead(made)), "from " + str(made))
            self.assertEqual(str(Bound.behind(made)), "behind " + str(made))
            self.assertEqual(str(Bound.past(made)), "past " + str(made))
        self.assertEqual(str(Bound.past(Made())), "past !")
        self.assertEqual(str(Bound.end()), "end")

    def test_equality(self):
        def bounds():
            return [Bound(kind, Made(text)) for kind in KINDS for text in ("", "@", "a@")] + [Bound.end()]

        for at, one in enumerate(bounds()):
            for other_at, other in enumerate(bounds()):
                self.assertIs(one == other, at == other_at)
                self.assertIs(one != other, at != other_at)

    def test_equal_to_nothing_else(self):
        for bound in (Bound.end(), Bound.ahead(Made("a"))):
            for value in no_strings() + ["end", "from a", str(bound), Made("a"), ("from", Made("a"))]:
                self.assertIs(bound == value, False)
                self.assertIs(value == bound, False)
                self.assertIs(bound != value, True)

    def test_parameter_names(self):
        made = Made("@")
        self.assertEqual(Bound(kind="past", made=made), Bound.past(made=made))
        self.assertEqual(Bound.ahead(made=made), Bound("from", made))
        self.assertEqual(Bound.behind(made=made), Bound("behind", made))

    def test_methods_stand_in_the_class(self):
        self.assertLessEqual(
            {"__init__", "ahead", "behind", "past", "end", "placed", "__eq__", "__str__"}, set(vars(Bound))
        )


class PlacedTest(unittest.TestCase):
    """[21]: the least text behind the place of a bound."""

    def test_from(self):
        for text, name, placed in (("a@", "b", "ab"), ("", "b", ""), ("@", "", ""), ("@a@", "bb", "bbabb"), ("b", "a", "b")):
            self.assertEqual(Bound.ahead(Made(text)).placed("ab", name), placed)

    def test_behind(self):
        for text, name, placed in (("a@", "b", "aba"), ("", "b", "a"), ("@", "", "a"), ("@a@", "bb", "bbabba")):
            self.assertEqual(Bound.behind(Made(text)).placed("ab", name), placed)
        self.assertEqual(Bound.behind(Made("0@")).placed("-/0a", "a"), "0a-")

    def test_past(self):
        for text, name, placed in (
            ("a@", "a", "ab"), ("a@", "b", "b"), ("a@", "bbb", "b"), ("@a", "b", "bb"), ("ba@", "bb", "bb"), ("@", "ab", "b"),
        ):
            self.assertEqual(Bound.past(Made(text)).placed("ab", name), placed)
        self.assertEqual(Bound.past(Made("@/")).placed("-/0a", "a"), "a0")

    def test_past_greatest_letters(self):
        for text, name in (("", "a"), ("b", "a"), ("@", ""), ("@", "bb"), ("b@b@", "b"), ("bb@", "")):
            self.assertIsNone(Bound.past(Made(text)).placed("ab", name))

    def test_end(self):
        for name in ("", "a", "bb"):
            self.assertIsNone(Bound.end().placed("ab", name))

    def test_the_least_text_behind_the_place(self):
        source = random.Random(21)
        for letters in ("ab", "-/0"):
            every = sorted(texts_up_to(letters, 6))
            for _ in range(60):
                made = Made(random_made(source, letters, 2, 1))
                name = random_text(source, letters, 2)
                text = made(name)
                for bound, behind in (
                    (Bound.ahead(made), [t for t in every if t >= text]),
                    (Bound.behind(made), [t for t in every if t > text]),
                    (Bound.past(made), [t for t in every if t > text and not t.startswith(text)]),
                ):
                    self.assertEqual(bound.placed(letters, name), behind[0] if behind else None)

    def test_other_letters(self):
        for kind in KINDS:
            for text in ("c", "c@", "ab@c"):
                with self.assertRaises(Mismatch) as caught:
                    Bound(kind, Made(text)).placed("ab", "a")
                self.assertIs(type(caught.exception), Mismatch)
            Bound(kind, Made("ac")).placed("abc", "b")

    def test_parameter_names(self):
        self.assertEqual(Bound.ahead(Made("a@")).placed(letters="ab", name="b"), "ab")


if __name__ == "__main__":
    unittest.main()
