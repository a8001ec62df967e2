"""The examples of ../shared/DOC.md."""

import unittest

from undername.alike import least_parting, parting_names
from undername.bounds import Bound
from undername.choices import broken
from undername.desk import Desk
from undername.equations import solved
from undername.errors import InvalidProgram
from undername.made import Made
from undername.names import Names
from undername.orders import order, told_names
from undername.papers import paper_holds
from undername.programs import Program
from undername.rows import There
from undername.stores import Store
from undername.texts import name_at, raised, room
from undername.zones import Zone, missed, right_end


class ExamplesTest(unittest.TestCase):
    def test_texts(self):
        self.assertEqual((raised("ab", "abb"), room("ab", "a", "aaaa"), name_at("ab", 5)), ("b", 3, "ba"))

    def test_made(self):
        made = "u/" + Made("@") * 2
        self.assertEqual((made.text, made.marks, made("x"), str(Made(""))), ("u/@@", 2, "u/xx", "!"))

    def test_equations(self):
        self.assertEqual(
            (solved("ab", Made("ab@"), Made("@ba")), solved("ab", Made("@@"), Made("@ab"))),
            (((), ("ab", "a", 0)), (("ab",), None)),
        )

    def test_names(self):
        names = Names.family("ab", "ab", "a")
        self.assertEqual(
            (names[0], names[1], names.size, "aba" in names, (names // "ab").least), ("a", "aba", None, True, "a")
        )

    def test_orders(self):
        bounds = [Bound.ahead(Made("a@")), Bound.ahead(Made("@a"))]
        self.assertEqual(
            (told_names("ab", bounds), order("ab", bounds, "b"), order("ab", bounds, "aa")),
            (("", "b"), ((0, 1), (1,)), ((0, 0), ())),
        )

    def test_zones(self):
        scan = Zone("-/0a", Bound.ahead(Made("@/")), Bound.ahead(Made("@0")))
        short = Zone("-/0a", Bound.ahead(Made("@")), Bound.ahead(Made("@0")))
        self.assertEqual(
            (
                scan == Zone.under("-/0a", Made("@/")), missed(Zone.under("-/0a", Made("@")), short),
                str(right_end("-/0a", Made("@/"))),
            ),
            (True, ("", "0"), "from @0"),
        )

    def test_the_example_of_the_overview(self):
        under = Zone.under("-/0a", Made("@"))
        self.assertEqual(missed(under, Zone("-/0a", Bound.ahead(Made("@")), Bound.ahead(Made("@0")))), ("", "0"))
        self.assertIs(Zone.read("-/0a", "from @/ to from @0") == Zone.read("-/0a", "under @/"), True)

    def test_programs(self):
        outcome = Program.read("ab", "put @a 1\nlist under @")("b", Store("ab", [("bb", 2)]))
        self.assertEqual(
            (outcome.answers, outcome.store.pairs()), ((("list", (("ba", 1), ("bb", 2))),), [("ba", 1), ("bb", 2)])
        )

    def test_pages(self):
        program = Program.read("ab", "page 1 c all\nif found c\nlist all after c\nend")
        self.assertEqual(
            program("", Store("ab", [("b", 2), ("a", 1)])).answers, (("page", (("a", 1),)), ("list", (("b", 2),)))
        )

    def test_least_parting(self):
        found = least_parting(Program.read("ab", "list under @"), Program.read("ab", "list from @ to from @b"))
        self.assertEqual((found[0], found[1].pairs()), ("", [("b", 0)]))

    def test_parting_names(self):
        names = parting_names(Program.read("ab", "copy a@ @a"), Program("ab"))
        self.assertEqual((names[0], names.many(1), names.many(2)), ("b", 1, 3))

    def test_papers(self):
        one = Program.read("ab", "put @ 1")
        self.assertEqual((paper_holds(one, one, ((), (), ())), paper_holds(one, one, ((),))), (True, False))

    def test_broken(self):
        found = broken(Program.read("ab", "take under @"), [There(Made("@"))])
        self.assertEqual((found[0], found[1].pairs()), ("", [("", 0)]))

    def test_desk(self):
        desk = Desk()
        desk.say("letters ab")
        desk.say("do put a 1 ; put b 2 ; count under !")
        self.assertEqual(desk.say("show"), "a=1 b=2")

    def test_a_wrong_program(self):
        with self.assertRaises(InvalidProgram) as caught:
            Program.read("ab", "tell @\ntell c")
        self.assertEqual(caught.exception.at, 1)


if __name__ == "__main__":
    unittest.main()
