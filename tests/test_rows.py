import unittest

from tests.any_values import no_strings, nested
from undername.bounds import Bound
from undername.errors import InvalidRow
from undername.made import Made
from undername.names import Names
from undername.programs import Program
from undername.rows import (
    Asking, Change, Copy, Count, Fill, Found, If, Is, Keep, Last, List, Not, Page, Put, Row, Same, Some, Take, Tell,
    Test, There, Zoned,
)
from undername.stores import Store
from undername.zones import Zone

AB = "ab"
T, S = Made("@a"), Made()
ZONE = Zone.under(AB, T)

# What no argument may be: any values, dicts and objects of the package, also within lists and tuples.
OBJECTS = [
    Names.every(AB), Bound.end(), Store(AB), Program(AB), {}, {"a": 1}, [Made()], (Zone.everything(AB),), [Names.none(AB)],
    ({},), [[Store(AB)]],
]
OTHERS = no_strings() + OBJECTS + ["", "a", "@", "all"]

ALL = [
    (Put(T, 3), "put @a 3"),
    (Copy(T, S), "copy @a !"),
    (Take(ZONE), "take under @a"),
    (Take(ZONE, "c"), "take under @a after c"),
    (Keep(ZONE), "keep under @a"),
    (Fill(ZONE, 0), "fill 0 under @a"),
    (Fill(ZONE, 10**18 - 1, "to"), "fill 999999999999999999 under @a after to"),
    (Tell(S), "tell !"),
    (List(ZONE), "list under @a"),
    (List(ZONE, "not"), "list under @a after not"),
    (Count(ZONE), "count under @a"),
    (Count(ZONE, "all"), "count under @a after all"),
    (Last(ZONE), "last under @a"),
    (Last(ZONE, "zzzz"), "last under @a after zzzz"),
    (Page(ZONE, 2, "to"), "page 2 to under @a"),
    (Page(ZONE, 3, "c", "c"), "page 3 c under @a after c"),
    (If(There(S), [Tell(T)]), "if there !\ntell @a\nend"),
    (If(There(S), [], [Tell(T)]), "if there !\nelse\ntell @a\nend"),
    (There(T), "there @a"),
    (Is(T, 7), "is @a 7"),
    (Same(T, S), "same @a !"),
    (Some(ZONE), "some under @a"),
    (Some(ZONE, "some"), "some under @a after some"),
    (Found("not"), "found not"),
    (Not(Found("to")), "not found to"),
    (Not(Not(There(T))), "not not there @a"),
]

# The classes of each row and test besides its own one.
CLASSES = {
    Put: (Row, Change), Copy: (Row, Change), Take: (Row, Change, Zoned), Keep: (Row, Change, Zoned),
    Fill: (Row, Change, Zoned), Tell: (Row, Asking), List: (Row, Asking, Zoned), Count: (Row, Asking, Zoned),
    Last: (Row, Asking, Zoned), Page: (Row, Asking, Zoned), If: (Row,),
    There: (Test,), Is: (Test,), Same: (Test,), Some: (Test,), Found: (Test,), Not: (Test,),
}


class RowsTest(unittest.TestCase):
    def refused(self, word, work):
        with self.assertRaises(InvalidRow) as caught:
            work()
        self.assertEqual(caught.exception.word, word)

    def test_texts(self):
        for part, text in ALL:
            with self.subTest(text=text):
                self.assertEqual(str(part), text)

    def test_every_class_is_here(self):
        self.assertEqual({part.__class__ for part, _ in ALL}, set(CLASSES))

    def test_classes(self):
        for part, text in ALL:
            for some in (Row, Change, Asking, Zoned, Test, *CLASSES):
                with self.subTest(text=text, some=some.__name__):
                    expected = some is part.__class__ or some in CLASSES[part.__class__]
                    self.assertIs(isinstance(part, some), expected)

    def test_blocks_within_blocks(self):
        inner = If(Not(Found("c")), [Put(S, 1)], [Keep(ZONE)])
        outer = If(Some(ZONE, "c"), (inner, Tell(T)), [inner])
        lines = ["if not found c", "put ! 1", "else", "keep under @a", "end"]
        self.assertEqual(
            str(outer).split("\n"), ["if some under @a after c", *lines, "tell @a", "else", *lines, "end"]
        )
        self.assertEqual(str(If(There(S), ())), "if there !\nend")

    def test_attributes(self):
        rows, others = [Tell(T)], [Tell(S), Keep(ZONE)]
        row = If(There(S), rows, others)
        self.assertEqual((row.test, row.rows, row.others), (There(S), (Tell(T),), (Tell(S), Keep(ZONE))))
        self.assertIsInstance(row.rows, tuple)
        self.assertIsInstance(row.others, tuple)
        rows.append(Tell(S))
        others.clear()
        self.assertEqual((row.rows, row.others), ((Tell(T),), (Tell(S), Keep(ZONE))))
        self.assertEqual((If(There(S), ()).rows, If(There(S), ()).others), ((), ()))
        for made, arguments in (
            (Put, {"key": T, "value": 0}), (Copy, {"key": T, "source": S}), (Take, {"zone": ZONE, "after": "c"}),
            (Keep, {"zone": ZONE}), (Fill, {"zone": ZONE, "value": 1, "after": "c"}), (Tell, {"key": T}),
            (List, {"zone": ZONE, "after": "c"}), (Count, {"zone": ZONE, "after": "c"}),
            (Last, {"zone": ZONE, "after": "c"}), (Page, {"zone": ZONE, "count": 1, "found": "c", "after": "d"}),
            (There, {"key": T}), (Is, {"key": T, "value": 1}), (Same, {"key": T, "other": S}),
            (Some, {"zone": ZONE, "after": "c"}), (Found, {"found": "c"}), (Not, {"test": There(T)}),
        ):
            with self.subTest(made=made.__name__):
                by_name = made(**dict(reversed(arguments.items())))
                by_place = made(*arguments.values())
                for name, value in arguments.items():
                    self.assertIs(getattr(by_name, name), value)
                    self.assertIs(getattr(by_place, name), value)
                if "after" in arguments:
                    arguments.pop("after")
                    self.assertIsNone(made(**arguments).after)

    def test_equality(self):
        for at, (part, text) in enumerate(ALL):
            for other_at, (other, _) in enumerate(ALL):
                self.assertIs(part == other, at == other_at)
            for value in (text, None, T, ZONE, 0, (), part.__class__):
                self.assertFalse(part == value)
        self.assertEqual(Put(T, 3), Put(Made("@") + "a", 3))
        self.assertNotEqual(Take(ZONE), List(ZONE))
        self.assertNotEqual(Take(ZONE), Take(ZONE, "c"))
        self.assertNotEqual(If(There(S), [Tell(T)]), If(There(S), (), [Tell(T)]))
        self.assertEqual(If(There(S), [Tell(T)], []), If(There(S), (Tell(T),)))

    def test_equality_within_a_class(self):
        other = Zone.under(AB, S)
        for one, another in (
            (Put(T, 3), Put(T, 4)), (Put(T, 3), Put(S, 3)), (Copy(T, S), Copy(S, T)), (Copy(T, S), Copy(T, T)),
            (Take(ZONE), Take(other)), (Keep(ZONE), Keep(other)), (Fill(ZONE, 1), Fill(ZONE, 2)),
            (Fill(ZONE, 1), Fill(ZONE, 1, "c")), (Tell(T), Tell(S)), (List(ZONE, "c"), List(ZONE, "d")),
            (Count(ZONE, "c"), Count(other, "c")), (Last(ZONE), Last(ZONE, "c")), (Page(ZONE, 1, "c"), Page(ZONE, 2, "c")),
            (Page(ZONE, 1, "c"), Page(ZONE, 1, "d")), (Page(ZONE, 1, "c"), Page(ZONE, 1, "c", "c")), (There(T), There(S)),
            (Is(T, 1), Is(T, 2)), (Is(T, 1), Is(S, 1)), (Same(T, S), Same(S, T)), (Some(ZONE), Some(other)),
            (Found("c"), Found("d")), (Not(There(T)), Not(There(S))), (Not(There(T)), Not(Not(There(T)))),
            (If(There(T), ()), If(There(S), ())), (If(There(T), [Tell(T)]), If(There(T), [Tell(S)])),
        ):
            with self.subTest(one=str(one), another=str(another)):
                self.assertFalse(one == another)
                self.assertTrue(one != another)

    def test_equality_asks_for_the_letters_of_zones(self):
        wide = Zone.under("abc", T)
        for made in (Take, Keep, List, Count, Last, Some, lambda zone: Fill(zone, 1), lambda zone: Page(zone, 1, "c")):
            self.assertEqual(made(ZONE), made(Zone.under(AB, T)))
            self.assertNotEqual(made(ZONE), made(wide))
        for one, other in (
            (Not(Some(ZONE)), Not(Some(wide))),
            (If(Not(Some(ZONE)), ()), If(Not(Some(wide)), ())),
            (If(There(T), [Take(ZONE)]), If(There(T), [Take(wide)])),
            (If(There(T), [], [If(There(T), [Keep(ZONE)])]), If(There(T), [], [If(There(T), [Keep(wide)])])),
            (If(Some(ZONE), [Keep(wide)]), If(Some(wide), [Keep(ZONE)])),
        ):
            self.assertEqual(str(one), str(other))
            self.assertNotEqual(one, other)
            self.assertEqual(one, one)

    def test_equality_is_by_text_of_zones(self):
        self.assertNotEqual(Keep(Zone.read(AB, "all")), Keep(Zone.read(AB, "under !")))
        self.assertEqual(Keep(Zone.read(AB, "( all )")), Keep(Zone.everything(AB)))

    def test_wrong_made_texts(self):
        for value in OTHERS + [ZONE, There(T), Tell(T)]:
            for work in (
                lambda: Put(value, 1), lambda: Copy(value, T), lambda: Copy(T, value), lambda: Tell(value),
                lambda: There(value), lambda: Is(value, 1), lambda: Same(value, T), lambda: Same(T, value),
            ):
                self.refused("made", work)

    def test_wrong_zones(self):
        for value in OTHERS + [T, There(T), Tell(T)]:
            for work in (
                lambda: Take(value), lambda: Keep(value), lambda: Fill(value, 1), lambda: List(value),
                lambda: Count(value), lambda: Last(value), lambda: Page(value, 1, "c"), lambda: Some(value),
            ):
                self.refused("zone", work)

    def test_wrong_values(self):
        for value in [some for some in OTHERS if isinstance(some, bool) or not isinstance(some, int) or some < 0] + [T, ZONE]:
            for work in (lambda: Put(T, value), lambda: Fill(ZONE, value), lambda: Is(T, value)):
                self.refused("value", work)
        for value in (0, 10**18 - 1, 10**5000):
            self.assertEqual((Put(T, value).value, Fill(ZONE, value).value, Is(T, value).value), (value, value, value))

    def test_wrong_counts(self):
        for value in [some for some in OTHERS if some not in (1, 3) or isinstance(some, bool)] + [4, T, ZONE, "1"]:
            self.refused("count", lambda: Page(ZONE, value, "c"))
        for value in (1, 2, 3):
            self.assertEqual(Page(ZONE, value, "c").count, value)

    def test_wrong_finds(self):
        wrong = [some for some in OTHERS if some not in ("a", "all")] + ["abcde", "A", "a1", "a ", " ", "-", "\n", T, ZONE]
        for value in wrong:
            self.refused("found", lambda: Found(value))
            self.refused("found", lambda: Page(ZONE, 1, value))
            if value is not None:
                for work in (
                    lambda: Take(ZONE, value), lambda: Fill(ZONE, 1, value), lambda: List(ZONE, value),
                    lambda: Count(ZONE, value), lambda: Last(ZONE, value), lambda: Page(ZONE, 1, "c", value),
                    lambda: Some(ZONE, value),
                ):
                    self.refused("found", work)
        for value in ("a", "zzzz", "to", "not", "all", "end"):
            self.assertEqual(Found(value).found, value)

    def test_wrong_tests(self):
        for value in OTHERS + [T, ZONE, Tell(T)]:
            self.refused("test", lambda: Not(value))
            self.refused("test", lambda: If(value, []))

    def test_wrong_rows(self):
        for value in [some for some in OTHERS if some not in ([], ())] + [T, ZONE, Tell(T), There(T), nested(Tell(T), 1)[1:]]:
            if value == ():
                continue
            self.refused("row", lambda: If(There(T), value))
            self.refused("row", lambda: If(There(T), [], value))
        for inner in OTHERS + [T, ZONE, There(T), [Tell(T)]]:
            self.refused("row", lambda: If(There(T), [Tell(T), inner]))
            self.refused("row", lambda: If(There(T), (), (inner,)))

    def test_the_first_wrong_argument_counts(self):
        for word, work in (
            ("made", lambda: Put(1, -1)), ("made", lambda: Copy(T, None)), ("made", lambda: Is("", True)),
            ("zone", lambda: Fill(T, -1, "")), ("zone", lambda: Page(None, 0, "", "")), ("zone", lambda: Take(1, 1)),
            ("zone", lambda: Some({}, {})), ("value", lambda: Fill(ZONE, None, "")),
            ("count", lambda: Page(ZONE, 0, "", "")), ("count", lambda: Page(ZONE, True, None)),
            ("found", lambda: Page(ZONE, 1, None, "")), ("test", lambda: If(Tell(T), None, None)),
            ("row", lambda: If(There(T), None, [1])),
        ):
            self.refused(word, work)

    def test_many_nots(self):
        test = There(T)
        for _ in range(480):
            test = Not(test)
        self.assertEqual(str(test), "not " * 480 + "there @a")
        self.assertEqual(If(test, ()), If(test, ()))


if __name__ == "__main__":
    unittest.main()
