import random
import unittest

from tests.any_values import no_strings, texts_up_to
from tests.some_bounds import KINDS, bound_is_behind, random_mades, random_zone
from undername.bounds import Bound
from undername.errors import Mismatch, NoText
from undername.made import Made
from undername.names import Names
from undername.texts import room
from undername.zones import Zone, missed, names_with_room, names_within, right_end, wrong_end

LETTERS = ["ab", "ab", "abc", "-/0a"]
NAMES = {"ab": 3, "abc": 2, "-/0a": 2}
KEYS = {"ab": 5, "abc": 4, "-/0a": 3}


def some_zones(count, seed, depth=2):
    """Letters and two random zones over them, with what these hold."""
    source = random.Random(seed)
    rows = []
    for _ in range(count):
        letters = source.choice(LETTERS)
        mades = random_mades(source, letters, source.randint(1, 3))
        one = random_zone(source, letters, mades, source.randint(0, depth))
        rows.append((letters, one, random_zone(source, letters, mades, source.randint(0, depth))))
    return rows


def names_and_keys(letters):
    return texts_up_to(letters, NAMES[letters]), texts_up_to(letters, KEYS[letters])


def keys_of(zone, name, keys):
    """The keys in the stretches for a name."""
    return [key for key in keys if any(low <= key and (high is None or key < high) for low, high in zone(name))]


class ZoneTest(unittest.TestCase):
    """[24]: how zones are made."""

    def test_a_stretch(self):
        zone = Zone("ab", Bound.ahead(Made("@")), Bound.past(Made("a")))
        self.assertEqual(zone("a"), (("a", "b"),))
        self.assertEqual(zone("b"), ())
        self.assertEqual(zone(""), (("", "b"),))

    def test_a_stretch_of_each_two_kinds(self):
        names, keys = names_and_keys("ab")
        for low in KINDS + ("end",):
            for high in KINDS + ("end",):
                for text, other_text in (("@", "a@"), ("a@", "@a"), ("@", "@"), ("", "b@"), ("@b", "a")):
                    low_bound = Bound(low, None if low == "end" else Made(text))
                    high_bound = Bound(high, None if high == "end" else Made(other_text))
                    zone = Zone("ab", low_bound, high_bound)
                    for name in names:
                        held = [
                            key for key in keys
                            if bound_is_behind("ab", high_bound, name, key) and not bound_is_behind("ab", low_bound, name, key)
                        ]
                        self.assertEqual([key for key in keys if zone.has(name, key)], held)

    def test_class_methods(self):
        names, keys = names_and_keys("ab")
        for text in ("", "@", "a@", "@b", "b", "@@"):
            made = Made(text)
            under, only = Zone.under("ab", made), Zone.only("ab", made)
            for name in names:
                self.assertEqual(keys_of(under, name, keys), [key for key in keys if key.startswith(made(name))])
                self.assertEqual(only(name), ((made(name), made(name) + "a"),))
        for zone in (Zone.everything("ab"), Zone.under("ab", Made())):
            for name in names:
                self.assertEqual(zone(name), (("", None),))

    def test_operators(self):
        for letters, (one, in_one), (other, in_other) in some_zones(60, 24, 1):
            names, keys = names_and_keys(letters)
            for zone, is_in in (
                (one & other, lambda name, key: in_one(name, key) and in_other(name, key)),
                (one | other, lambda name, key: in_one(name, key) or in_other(name, key)),
                (one - other, lambda name, key: in_one(name, key) and not in_other(name, key)),
                (one ^ other, lambda name, key: in_one(name, key) != in_other(name, key)),
                (~one, lambda name, key: not in_one(name, key)),
            ):
                self.assertIsInstance(zone, Zone)
                self.assertEqual(zone.letters, letters)
                for name in names:
                    self.assertEqual(keys_of(zone, name, keys), [key for key in keys if is_in(name, key)])

    def test_in_place_operators_give_new_objects(self):
        one, other = Zone.under("ab", Made("@")), Zone.only("ab", Made("@a"))
        elder = zone = Zone.under("ab", Made("@"))
        zone &= other
        self.assertEqual(str(zone), "under @ & key @a")
        zone |= one
        self.assertEqual(str(zone), "under @ & key @a | under @")
        zone -= other
        zone ^= one
        self.assertEqual(str(zone), "under @ & key @a | under @ - key @a ^ under @")
        self.assertEqual((str(elder), elder("a")), ("under @", (("a", "b"),)))
        self.assertEqual(str(other), "key @a")

    def test_other_letters(self):
        one, other = Zone.everything("ab"), Zone.everything("abc")
        for call in (lambda: one & other, lambda: one | other, lambda: one - other, lambda: one ^ other):
            with self.assertRaises(Mismatch) as caught:
                call()
            self.assertIs(type(caught.exception), Mismatch)

    def test_made_texts_of_other_letters(self):
        made, fine = Made("@c"), Bound.ahead(Made("@"))
        for call in (
            lambda: Zone("ab", Bound.ahead(made), fine), lambda: Zone("ab", fine, Bound.past(made)),
            lambda: Zone("ab", Bound.behind(made), Bound.end()), lambda: Zone.under("ab", made),
            lambda: Zone.only("ab", made), lambda: right_end("ab", made),
            lambda: wrong_end("ab", made, fine), lambda: wrong_end("ab", Made("@"), Bound.behind(made)),
        ):
            with self.assertRaises(Mismatch) as caught:
                call()
            self.assertIs(type(caught.exception), Mismatch)

    def test_bounds(self):
        low, high, past = Bound.ahead(Made("@")), Bound.behind(Made("a@")), Bound.past(Made("@"))
        start, end = Bound.ahead(Made()), Bound.end()
        for zone, bounds in (
            (Zone("ab", low, high), (low, high)),
            (Zone("ab", high, low), (high, low)),
            (Zone("ab", low, low), (low,)),
            (Zone.under("ab", Made("@")), (low, past)),
            (Zone.only("ab", Made("a@")), (Bound.ahead(Made("a@")), high)),
            (Zone.everything("ab"), (start, end)),
            (~Zone.under("ab", Made("@")), (low, past)),
            (Zone("ab", past, high) & Zone.under("ab", Made("@")), (past, high, low)),
            (Zone("ab", low, end) - (Zone("ab", high, low) | Zone.everything("ab")), (low, end, high, start)),
        ):
            self.assertIsInstance(zone.bounds, tuple)
            self.assertEqual(zone.bounds, bounds)
            self.assertEqual([str(bound) for bound in zone.bounds], [str(bound) for bound in bounds])

    def test_attributes_are_set_at_once(self):
        one = Zone.under("ab", Made("@"))
        for zone in (one, ~one, one & one, Zone.read("ab", "all"), Zone("ab", Bound.end(), Bound.end())):
            self.assertLessEqual({"letters", "bounds"}, set(vars(zone)))
            self.assertEqual(zone.letters, "ab")

    def test_parameter_names(self):
        low, high = Bound.ahead(Made("@")), Bound.end()
        zone = Zone(letters="ab", low=low, high=high)
        self.assertEqual(zone(name="b"), (("b", None),))
        self.assertIs(zone.has(name="b", key="a"), False)
        self.assertEqual(str(Zone.under(letters="ab", made=Made("@"))), "under @")
        self.assertEqual(str(Zone.only(letters="ab", made=Made("@"))), "key @")
        self.assertEqual(str(Zone.everything(letters="ab")), "all")
        self.assertEqual(str(Zone.read(letters="ab", text="all")), "all")

    def test_methods_stand_in_the_class(self):
        self.assertLessEqual(
            {
                "__init__", "under", "only", "everything", "read", "__call__", "has", "__and__", "__or__", "__sub__",
                "__xor__", "__invert__", "__eq__", "__le__", "__lt__", "__ge__", "__gt__", "__bool__", "__str__",
            },
            set(vars(Zone)),
        )


class StretchesTest(unittest.TestCase):
    """[25]: the stretches of a zone for a name, and the keys in it."""

    def test_stretches(self):
        for text, name, stretches in (
            ("under @ | under @", "a", (("a", "b"),)), ("key @ | key @a", "b", (("b", "baa"),)),
            ("under a | under b", "", (("a", None),)), ("key b | key a", "", (("a", "aa"), ("b", "ba"))),
            ("all - key @", "a", (("", "a"), ("aa", None))), ("all - key @", "", (("a", None),)),
            ("from @ to from @", "a", ()), ("from b to from a", "", ()), ("end to end", "", ()), ("end to from b", "", ()),
            ("not all", "a", ()), ("past @ to end", "b", ()), ("past @ to end", "a", (("b", None),)),
            ("from @ to from a ^ from a to from b", "", (("", "b"),)), ("under @ & under a@", "a", (("aa", "ab"),)),
        ):
            self.assertEqual(Zone.read("ab", text)(name), stretches)

    def test_form_of_the_stretches(self):
        for letters, (zone, _), (other, _) in some_zones(120, 25):
            for name in names_and_keys(letters)[0] + [letters[0] * 200, letters[-1] * 200, letters * 40]:
                for stretches in (zone(name), (zone ^ other)(name)):
                    self.assertIsInstance(stretches, tuple)
                    for at, (low, high) in enumerate(stretches):
                        self.assertIsInstance(stretches[at], tuple)
                        self.assertTrue(high is None or low < high)
                        if at > 0:
                            self.assertLess(stretches[at - 1][1], low)

    def test_keys_by_plain_search(self):
        for letters, (zone, is_in), _ in some_zones(120, 26):
            names, keys = names_and_keys(letters)
            for name in names:
                held = [key for key in keys if is_in(name, key)]
                self.assertEqual(keys_of(zone, name, keys), held)
                self.assertEqual([key for key in keys if zone.has(name, key)], held)

    def test_has_gives_true_or_false(self):
        zone = Zone.under("ab", Made("@"))
        self.assertIs(zone.has("a", "ab"), True)
        self.assertIs(zone.has("a", "b"), False)

    def test_values_that_are_no_keys(self):
        for zone in (Zone.everything("ab"), Zone.under("ab", Made("@")), ~Zone.only("ab", Made("@"))):
            for value in no_strings() + ["c", "a ", "@", "!", "aB"]:
                self.assertIs(zone.has("", value), False)

    def test_values_that_are_no_names(self):
        zone = Zone.under("ab", Made("@"))
        for value in no_strings() + ["c", "a ", "@", "!", "aB"]:
            for call in (lambda: zone(value), lambda: zone.has(value, "a"), lambda: zone.has(value, 7)):
                with self.assertRaises(NoText) as caught:
                    call()
                self.assertIs(type(caught.exception), NoText)
                self.assertIs(caught.exception.value, value)


class ComparisonsTest(unittest.TestCase):
    """[26]: what holds for all names."""

    def test_example(self):
        scan = Zone("-/0a", Bound.ahead(Made("@/")), Bound.ahead(Made("@0")))
        short = Zone("-/0a", Bound.ahead(Made("@")), Bound.ahead(Made("@0")))
        self.assertIs(scan == Zone.under("-/0a", Made("@/")), True)
        self.assertEqual(missed(Zone.under("-/0a", Made("@")), short), ("", "0"))
        self.assertEqual(str(right_end("-/0a", Made("@/"))), "from @0")

    def test_zones_that_are_equal_in_another_form(self):
        for one, other in (
            ("from @/ to from @0", "under @/"), ("key @", "from @ to from @-"), ("not not under @", "under @"),
            ("under @ - under @/", "under @ & not under @/"), ("all", "key @ ^ not key @"), ("under @ | all", "all"),
            ("end to from @", "all - all"), ("from @a to from @", "past @ to from @"), ("under !", "all"),
            ("past a@ to end", "not ( from ! to past a@ )"), ("from @ to end - from @/ to end", "from @ to from @/"),
        ):
            zone, others = Zone.read("-/0a", one), Zone.read("-/0a", other)
            self.assertIs(zone == others, True, one)
            self.assertIs(zone != others, False)
            self.assertEqual((zone <= others, zone >= others, zone < others, zone > others), (True, True, False, False))
            self.assertIsNone(missed(zone, others))
            self.assertEqual(names_within(zone, others), Names.every("-/0a"))

    def test_a_name_far_away_tells_the_difference(self):
        # The stretch ends where it should but for names of greatest letters alone.
        zone = Zone.read("ab", "from @ to past @b | past @b to past @")
        self.assertIs(zone == Zone.under("ab", Made("@")), True)
        zone = Zone.read("ab", "all - key abbaabba")
        self.assertEqual(missed(Zone.only("ab", Made("@@")), zone), ("abba", "abbaabba"))
        self.assertEqual(names_within(Zone.only("ab", Made("@@")), zone), ~Names.of("ab", ["abba"]))
        self.assertIs(Zone.only("ab", Made("@@")) <= zone, False)
        self.assertIs(bool(Zone.read("ab", "key @@ & key abbaabba")), True)
        self.assertIs(bool(Zone.read("ab", "key @@ & key abbaabbb")), False)

    def test_against_plain_search(self):
        found = {"within": 0, "missed": 0, "same": 0}
        for letters, (zone, in_zone), (other, in_other) in some_zones(300, 27):
            names, keys = names_and_keys(letters)
            pair = missed(zone, other)
            within = names_within(zone, other)
            self.assertIsInstance(within, Names)
            gaps = {name: [key for key in keys if in_zone(name, key) and not in_other(name, key)] for name in names}
            for name in names:
                self.assertIs(name in within, (zone - other)(name) == ())
                if gaps[name]:
                    self.assertNotIn(name, within)
            self.assertIs(zone <= other, pair is None)
            self.assertIs(other >= zone, pair is None)
            self.assertIs(within == Names.every(letters), pair is None)
            self.assertIs(bool(zone - other), pair is not None)
            is_same = pair is None and missed(other, zone) is None
            self.assertIs(zone == other, is_same)
            self.assertIs(zone < other, pair is None and not is_same)
            self.assertIs(other > zone, pair is None and not is_same)
            self.assert_least(pair, in_zone, in_other, gaps, within)
            found["within"] += pair is None
            found["missed"] += pair is not None
            found["same"] += is_same
        self.assertTrue(all(found.values()))

    def assert_least(self, pair, in_zone, in_other, gaps, within):
        if pair is None:
            self.assertFalse(any(gaps.values()))
            return
        name, key = pair
        self.assertIsInstance(pair, tuple)
        self.assertEqual(name, (~within).least)
        self.assertTrue(in_zone(name, key) and not in_other(name, key))
        if gaps.get(name):
            self.assertLessEqual(key, min(gaps[name]))
        for shorter in gaps:
            if (len(shorter), shorter) < (len(name), name):
                self.assertEqual(gaps[shorter], [])

    def test_truth(self):
        for letters, (zone, is_in), _ in some_zones(80, 28):
            names, keys = names_and_keys(letters)
            if any(is_in(name, key) for name in names for key in keys):
                self.assertIs(bool(zone), True)
            self.assertIs(bool(zone), zone != Zone(letters, Bound.end(), Bound.end()))
        self.assertIs(bool(Zone.everything("ab")), True)
        self.assertIs(bool(Zone.read("ab", "from @a to from @")), False)

    def test_rooms(self):
        for letters, (zone, _), _ in some_zones(120, 29):
            names, _ = names_and_keys(letters)
            for many in range(6):
                roomy = names_with_room(zone, many)
                self.assertIsInstance(roomy, Names)
                self.assertEqual(roomy.letters, letters)
                for name in names + [letters[0] * 9, letters[-1] * 9]:
                    rooms = [room(letters, low, high) for low, high in zone(name)]
                    self.assertIs(name in roomy, None in rooms or sum(rooms) >= many)

    def test_small_rooms(self):
        zone = Zone.read("ab", "from ! to from @ | key @")
        every = Names.every("ab")
        self.assertEqual(names_with_room(zone, 0), every)
        self.assertEqual(names_with_room(zone, 1), every)
        self.assertEqual(names_with_room(zone, 2), every - Names.of("ab", [""]))
        self.assertEqual(names_with_room(zone, 5), every - Names.of("ab", ["", "a", "aa", "aaa"]))
        self.assertEqual(names_with_room(Zone.read("ab", "all - all"), 1), Names.none("ab"))
        self.assertEqual(names_with_room(Zone.read("ab", "key @ | key @aaa | key b"), 3), every - Names.of("ab", ["b"]))

    def test_other_letters(self):
        one, other = Zone.everything("ab"), Zone.everything("abc")
        for call in (
            lambda: one <= other, lambda: one < other, lambda: one >= other, lambda: one > other,
            lambda: names_within(one, other), lambda: missed(one, other),
        ):
            with self.assertRaises(Mismatch) as caught:
                call()
            self.assertIs(type(caught.exception), Mismatch)
        self.assertIs(one == other, False)
        self.assertIs(one != other, True)

    def test_equal_to_nothing_else(self):
        zone = Zone.everything("ab")
        for value in no_strings() + ["all", Made(), Bound.end(), Names.every("ab")]:
            self.assertIs(zone == value, False)
            self.assertIs(value == zone, False)
            self.assertIs(zone != value, True)

    def test_zones_of_the_greatest_sizes(self):
        one = Zone.read("abcde", "( from @abab to past @ | under a@b ) - ( key @@a & from a@b to past @abab )")
        other = Zone.read("abcde", "not ( key @@a ^ past @ to past @abab ) & under !")
        pair = missed(one, other)
        self.assertEqual(pair[0], (~names_within(one, other)).least)
        self.assertTrue(one.has(*pair) and not other.has(*pair))
        for name in texts_up_to("abcde", 3) + ["ab" * 9, "ab" * 9 + "a", "e" * 30, "aba" * 8]:
            self.assertIs(name in names_within(one, other), (one - other)(name) == ())

    def test_zones_stay_as_they_are(self):
        one, other = Zone.read("ab", "under @ - key @a"), Zone.read("ab", "from @ to end")
        for call in (
            lambda: one <= other, lambda: one == other, lambda: missed(other, one), lambda: bool(one),
            lambda: names_within(one, other), lambda: names_with_room(one, 3), lambda: one("ab"), lambda: (one | other)("b"),
        ):
            self.assertEqual(call(), call())
            self.assertEqual((str(one), len(one.bounds)), ("under @ - key @a", 4))

    def test_parameter_names(self):
        one, other = Zone.only("ab", Made("@")), Zone.only("ab", Made("a"))
        self.assertEqual(names_within(zone=one, other=other), Names.of("ab", ["a"]))
        self.assertEqual(missed(zone=one, other=other), ("", ""))
        self.assertEqual(names_with_room(zone=one, many=1), Names.every("ab"))


class EndsTest(unittest.TestCase):
    """[27]: the right end of a scan, and what a wrong one misses."""

    def test_right_ends(self):
        for letters, text, told in (
            ("-/0a", "@/", "from @0"), ("-/au", "u@/", "from u@a"), ("ab", "@", None),
            ("ab", "@b", None), ("ab", "@ab", "from @b"), ("ab", "@abb", "from @b"), ("ab", "b@", None),
            ("ab", "", "end"), ("ab", "b", "end"), ("ab", "bbb", "end"), ("ab", "a", "from b"), ("ab", "ab", "from b"),
            ("ab", "bab", "from bb"), ("ab", "a@bba@bb", None), ("ab", "a@bba@bab", "from a@bba@bb"), ("abc", "@@ac", "from @@b"),
        ):
            found = right_end(letters, Made(text))
            self.assertEqual(None if found is None else str(found), told)

    def test_right_ends_are_right(self):
        source = random.Random(271)
        found = {True: 0, False: 0}
        for _ in range(200):
            letters = source.choice(LETTERS)
            made = random_mades(source, letters, 1)[0]
            bound = right_end(letters, made)
            behind = made.text.rpartition("@")[2]
            self.assertIs(bound is not None, made.marks == 0 or behind.strip(letters[-1]) != "")
            found[bound is not None] += 1
            if bound is not None:
                self.assertIn(bound.kind, ("from", "end"))
                self.assertEqual(Zone(letters, Bound.ahead(made), bound), Zone.under(letters, made))
                self.assertIsNone(wrong_end(letters, made, bound))
        self.assertTrue(all(found.values()))

    def test_no_bound_is_right_where_none_is_told(self):
        for text in ("@", "@b", "a@", "b@bb"):
            for other in ("@", "@b", "@a", "b", "a@b", "@@", "b@", "@bb", ""):
                for bound in (Bound.ahead(Made(other)), Bound.end()):
                    self.assertIsNotNone(wrong_end("ab", Made(text), bound))

    def test_past_is_always_right(self):
        for text in ("@", "@b", "a@", "", "b", "@@a"):
            self.assertIsNone(wrong_end("ab", Made(text), Bound.past(Made(text))))

    def test_wrong_ends(self):
        for letters, text, bound, pair in (
            ("-/0a", "@", Bound.ahead(Made("@0")), ("", "0")), ("ab", "@", Bound.end(), ("a", "b")),
            ("ab", "@", Bound.ahead(Made("b")), ("", "b")), ("ab", "@a", Bound.ahead(Made("@aa")), ("", "aa")),
            ("ab", "@a", Bound.behind(Made("@a")), ("", "aa")), ("ab", "@a", Bound.ahead(Made("@")), ("", "a")),
            ("ab", "a@", Bound.ahead(Made("b")), ("a", "ab")), ("ab", "a@", Bound.ahead(Made("bb")), ("", "b")),
        ):
            self.assertEqual(wrong_end(letters, Made(text), bound), pair)

    def test_the_least_pair_by_plain_search(self):
        source = random.Random(272)
        found = {True: 0, False: 0}
        for _ in range(250):
            letters = source.choice(LETTERS)
            made, other = random_mades(source, letters, 2)
            bound = Bound.end() if source.random() < 0.1 else Bound(source.choice(KINDS), source.choice([made, other]))
            pair = wrong_end(letters, made, bound)
            scan, under = Zone(letters, Bound.ahead(made), bound), Zone.under(letters, made)
            self.assertIs(pair is None, scan == under)
            found[pair is None] += 1
            names, keys = names_and_keys(letters)
            wrong = [
                (name, key) for name in names for key in sorted(keys)
                if scan.has(name, key) != under.has(name, key)
            ]
            if pair is None:
                self.assertEqual(wrong, [])
                continue
            name, key = pair
            self.assertNotEqual(scan.has(name, key), under.has(name, key))
            if wrong:
                self.assertLessEqual((len(name), name, key), (len(wrong[0][0]),) + wrong[0])
        self.assertTrue(all(found.values()))

    def test_parameter_names(self):
        self.assertEqual(str(right_end(letters="ab", made=Made("a"))), "from b")
        self.assertEqual(wrong_end(letters="ab", made=Made("@"), bound=Bound.end()), ("a", "b"))


if __name__ == "__main__":
    unittest.main()
