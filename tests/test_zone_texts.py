import random
import unittest

from tests.some_bounds import random_mades, random_zone
from undername.bounds import Bound
from undername.errors import InvalidZone, Mismatch
from undername.made import Made
from undername.zones import Zone

# Texts that are written as they are read.
TEXTS = [
    "all", "under @", "under !", "under all", "key u/@", "key end", "from @ to past @", "behind ! to end", "end to end",
    "end to from !", "past to to from to", "from from to end", "under under", "key to", "not all", "not not not key @",
    "all & all", "all | key @ - under @ ^ end to end", "not all & not key @", "all - ( key @ | under @ )",
    "not ( all & all )", "not not ( all & all )", "all & ( all & all )", "all | not ( key a - all )",
    "all ^ ( all ^ ( all ^ ( all ^ all ) ) )", "not ( not ( all | all ) | all )", "all - key - & under -",
]


def letters_for(text):
    """At most five letters with all those of the made texts in a text of a zone."""
    words = text.split(" ")
    found = set()
    for word, behind in zip(words, words[1:]):
        if word in ("under", "key", "from", "behind", "past"):
            found |= set(behind) - {"@", "!"}
    found |= set("ab") if len(found) < 2 else set()
    return "".join(sorted(found))


class WrittenTest(unittest.TestCase):
    """[32]: the text of a zone as it was made."""

    def test_stretches(self):
        made = Made("a@")
        for zone, text in (
            (Zone.under("ab", made), "under a@"), (Zone.only("ab", made), "key a@"), (Zone.everything("ab"), "all"),
            (Zone.under("ab", Made()), "under !"), (Zone.only("ab", Made()), "key !"),
            (Zone("ab", Bound.ahead(made), Bound.past(made)), "from a@ to past a@"),
            (Zone("ab", Bound.behind(Made()), Bound.end()), "behind ! to end"),
            (Zone("ab", Bound.end(), Bound.end()), "end to end"),
        ):
            self.assertEqual(str(zone), text)

    def test_signs_and_parentheses(self):
        one, other, third = Zone.under("ab", Made("@")), Zone.only("ab", Made()), Zone.everything("ab")
        for zone, text in (
            (one & other, "under @ & key !"), (one | other, "under @ | key !"), (one - other, "under @ - key !"),
            (one ^ other, "under @ ^ key !"), (~one, "not under @"), (~~one, "not not under @"),
            ((one & other) | third, "under @ & key ! | all"), (one & (other | third), "under @ & ( key ! | all )"),
            (~(one & other), "not ( under @ & key ! )"), (~one & ~other, "not under @ & not key !"),
            (~(~one & other) - third, "not ( not under @ & key ! ) - all"),
            ((one - other) ^ (third - one), "under @ - key ! ^ ( all - under @ )"),
            (one & ~(other & (third | one)), "under @ & not ( key ! & ( all | under @ ) )"),
            (((one & other) & third) & one, "under @ & key ! & all & under @"),
        ):
            self.assertEqual(str(zone), text)


class ReadTest(unittest.TestCase):
    """[32]: zones that are read from texts."""

    def test_texts_lead_to_one_another(self):
        for text in TEXTS:
            zone = Zone.read(letters_for(text), text)
            self.assertEqual(str(zone), text)
            self.assertEqual(zone.letters, letters_for(text))
            self.assertEqual(Zone.read(zone.letters, str(zone)), zone)

    def test_random_zones_lead_to_their_texts(self):
        source = random.Random(32)
        for _ in range(150):
            letters = source.choice(["ab", "-/0a"])
            zone, _ = random_zone(source, letters, random_mades(source, letters, 3), 3)
            again = Zone.read(letters, str(zone))
            self.assertEqual(str(again), str(zone))
            self.assertEqual(again.bounds, zone.bounds)
            for name in ("", letters[0], letters[-1] * 2, letters[:2] * 3):
                self.assertEqual(again(name), zone(name))

    def test_signs_are_worked_from_left_to_right(self):
        for text, worked in (
            ("all - key @ | key @", "( all - key @ ) | key @"), ("key a | key b & key b", "( key a | key b ) & key b"),
            ("not key a & key a", "( not key a ) & key a"), ("all ^ all ^ all - all", "( ( all ^ all ) ^ all ) - all"),
        ):
            self.assertEqual(str(Zone.read("ab", worked)), text)
            self.assertEqual(Zone.read("ab", text), Zone.read("ab", worked))
        self.assertNotEqual(Zone.read("ab", "all - key @ | key @"), Zone.read("ab", "all - ( key @ | key @ )"))
        self.assertEqual(Zone.read("ab", "key a | key b & key b")("a"), (("b", "ba"),))

    def test_needless_parentheses(self):
        for text, plain in (
            ("( all )", "all"), ("( ( under @ ) )", "under @"), ("not ( all )", "not all"), ("( not all )", "not all"),
            ("( all & all )", "all & all"), ("( all & all ) & all", "all & all & all"), ("all & ( key @ )", "all & key @"),
            ("( ( all ) | ( not ( key @ ) ) )", "all | not key @"), ("( from @ to end )", "from @ to end"),
            ("not ( ( all & all ) )", "not ( all & all )"), ("all - ( ( all ) )", "all - all"),
        ):
            self.assertEqual(str(Zone.read("ab", text)), plain)

    def test_many_parentheses(self):
        self.assertEqual(str(Zone.read("ab", "( " * 490 + "all" + " )" * 490)), "all")
        self.assert_wrong("( " * 490 + "all" + " )" * 489, 490 + 1 + 489)
        self.assert_wrong("( " * 490 + "all" + " )" * 491, 490 + 1 + 490)
        self.assert_wrong("not ( " * 300, 600)
        self.assert_wrong("( " * 900 + "x", 900)

    def test_words_are_read_by_their_place(self):
        zone = Zone.read("adeln", "under end & key all | from all to past end")
        self.assertEqual(str(zone), "under end & key all | from all to past end")
        self.assertEqual(zone.bounds[0], Bound.ahead(Made("end")))

    def test_bounds_from_left_to_right(self):
        zone = Zone.read("ab", "past @ to from a | ( under @ - all ) ^ not key b")
        self.assertEqual(
            [str(bound) for bound in zone.bounds], ["past @", "from a", "from @", "from !", "end", "from b", "behind b"]
        )

    def assert_wrong(self, text, at, letters="ab"):
        with self.assertRaises(InvalidZone) as caught:
            Zone.read(letters, text)
        self.assertIs(type(caught.exception), InvalidZone)
        self.assertEqual(caught.exception.at, at, text)

    def test_the_first_word(self):
        for text in ("", " ", "x", "!", "@", "a", ")", "&", "to", "under@", "All", "UNDER @", "all\n", "(all)", "*", "to end"):
            self.assert_wrong(text, 0)

    def test_something_is_missing(self):
        for text in (
            "under", "key", "from", "behind", "past", "from @", "end", "from @ to", "end to", "end to past", "from @ to behind",
            "not", "not not", "(", "( all", "( ( all )", "all &", "all -", "all | (", "all ^ not", "all & ( all", "all & ( all |",
            "( under", "( end to end", "not ( all", "all - under", "( all ) &",
        ):
            self.assert_wrong(text, len(text.split(" ")))

    def test_a_wrong_word_at_each_place(self):
        for text, at in (
            ("under c", 1), ("key @c", 1), ("under !@", 1), ("under @!", 1), ("under (", 1), ("from c to end", 1), ("end end", 1),
            ("from @ from", 2), ("from @ & all", 2), ("end to", 2), ("end to all", 2), ("end to under @", 2), ("end to from c", 3),
            ("all all", 1), ("all )", 1), ("all (", 1), ("all not", 1), ("all & &", 2), ("all & )", 2), ("all & to", 2), ("( )", 1),
            ("( all ) )", 3), ("( all ) all", 3), ("( all ( ", 2), ("not )", 1), ("not & all", 1), ("under @ to end", 2),
            ("key @ @", 2), ("all & all all", 3), ("from @ to end to end", 4), ("from @ to end @", 4), ("not all not", 2),
            ("( all & ( all | c ) )", 6), ("all && all", 1), ("all | all || all", 3), ("to all", 0), ("@ all", 0),
            ("under @ + all", 2), ("( under @", 3), ("not from", 2), ("key a\n", 1), ("key\na", 0), ("all\n& all", 0),
        ):
            self.assert_wrong(text, at)

    def test_every_row_of_words(self):
        # A text is wrong at a word exactly if no text goes on with it.
        words = ["all", "under", "a", "end", "to", "not", "(", ")", "&", ""]
        rows = [[word] for word in words]
        good = {(): True}
        for _ in range(4):
            for row in rows:
                begins = tuple(row[:-1]) in good
                outcome = self.outcome(" ".join(row))
                if begins and outcome in (None, len(row)):
                    good[tuple(row)] = True
                elif begins:
                    self.assertEqual(outcome, len(row) - 1, row)
            rows = [row + [word] for row in rows if tuple(row) in good for word in words]
        self.assertEqual(
            sorted(row for row in good if len(row) == 2),
            sorted([
                ("all", "&"), ("under", "a"), ("end", "to"), ("not", "all"), ("not", "under"), ("not", "end"), ("not", "not"),
                ("not", "("), ("(", "all"), ("(", "under"), ("(", "end"), ("(", "not"), ("(", "("),
            ]),
        )
        self.assertIn(("(", "all", ")", "&"), good)
        self.assertIn(("end", "to", "end", "&"), good)

    def outcome(self, text):
        try:
            Zone.read("ab", text)
        except InvalidZone as error:
            return error.at
        return None

    def test_empty_words(self):
        for text, at in (
            ("", 0), (" all", 0), ("all ", 1), ("under  @", 1), ("under @ ", 2), ("all  & all", 1), ("all & ", 2), ("all &  all", 2),
            ("from @  to end", 2), ("from @ to ", 3), ("not ", 1), ("( ", 1), ("( all ) ", 3), ("  ", 0), ("from ", 1),
        ):
            self.assert_wrong(text, at)

    def test_letters_that_are_none(self):
        for text, at in (("under c", 1), ("all & key @c", 3), ("from @ to past /", 4), ("( not behind -@ to end )", 3)):
            self.assert_wrong(text, at)
        for text in ("under c", "all & key @c", "from @ to past c"):
            self.assertEqual(str(Zone.read("abc", text)), text)
        with self.assertRaises(InvalidZone):
            try:
                Zone.read("ab", "under c")
            except Mismatch:
                self.fail("Zone.read raises its own error")

    def test_long_texts(self):
        text = " | ".join(["under @"] * 200)
        zone = Zone.read("ab", text)
        self.assertEqual(str(zone), text)
        self.assertEqual(len(zone.bounds), 2)
        self.assertEqual(zone("a"), (("a", "b"),))
        self.assertEqual(zone, Zone.under("ab", Made("@")))
        self.assert_wrong(text + " |", 200 * 3)


if __name__ == "__main__":
    unittest.main()
