"""The examples of ../shared/DOC.md that use the modules that are there."""

import unittest

from undername.bounds import Bound
from undername.equations import solved
from undername.made import Made
from undername.names import Names
from undername.orders import order, told_names
from undername.texts import name_at, raised, room
from undername.zones import Zone, missed, right_end


class ExamplesTest(unittest.TestCase):
    def test_texts(self):
        self.assertEqual((raised("ab", "abb"), room("ab", "a", "aaaa"), name_at("ab", 5)), ("b", 3, "ba"))

    def test_made(self):
        made = "u/" + Made("@") * 2
        self.assertEqual((made.text, made.marks, made("x"), str(Made(""))), ("u/@@", 2, "u/xx", "!"))

    def test_equations(self):
        self.assertEqual(
            (solved("ab", Made("ab@"), Made("@ba")), solved("ab", Made("@@"), Made("@ab"))),
            (((), ("ab", "a", 0)), (("ab",), None)),
        )

    def test_names(self):
        names = Names.family("ab", "ab", "a")
        self.assertEqual(
            (names[0], names[1], names.size, "aba" in names, (names // "ab").least), ("a", "aba", None, True, "a")
        )

    def test_orders(self):
        bounds = [Bound.ahead(Made("a@")), Bound.ahead(Made("@a"))]
        self.assertEqual(
            (told_names("ab", bounds), order("ab", bounds, "b"), order("ab", bounds, "aa")),
            (("", "b"), ((0, 1), (1,)), ((0, 0), ())),
        )

    def test_zones(self):
        scan = Zone("-/0a", Bound.ahead(Made("@/")), Bound.ahead(Made("@0")))
        short = Zone("-/0a", Bound.ahead(Made("@")), Bound.ahead(Made("@0")))
        self.assertEqual(
            (
                scan == Zone.under("-/0a", Made("@/")), missed(Zone.under("-/0a", Made("@")), short),
                str(right_end("-/0a", Made("@/"))),
            ),
            (True, ("", "0"), "from @0"),
        )

    def test_the_example_of_the_overview(self):
        under = Zone.under("-/0a", Made("@"))
        self.assertEqual(missed(under, Zone("-/0a", Bound.ahead(Made("@")), Bound.ahead(Made("@0")))), ("", "0"))
        self.assertIs(Zone.read("-/0a", "from @/ to from @0") == Zone.read("-/0a", "under @/"), True)


if __name__ == "__main__":
    unittest.main()
