import random
import unittest

from tests.any_values import no_strings, random_text
from tests.plain_runs import PlainRun, plain_run
from tests.some_programs import Source, random_texts
from undername.errors import Mismatch, NoText
from undername.made import Made
from undername.programs import Program
from undername.rows import Found, Not, Same, Some, There
from undername.runs import Outcome, holds, run
from undername.stores import Store
from undername.zones import Zone

AB = "ab"
PAIRS = [("", 4), ("a", 1), ("ab", 2), ("b", 3), ("ba", 4)]


def random_store(source, letters):
    return Store(letters, [(random_text(source, letters, 4), source.randrange(3)) for _ in range(source.randint(0, 6))])


class RunsTest(unittest.TestCase):
    def check(self, text, answers, pairs=None, name="a", start=PAIRS):
        with self.subTest(text=text, name=name):
            outcome = run(Program.read(AB, text), name, Store(AB, start))
            self.assertEqual(outcome.answers, tuple(answers))
            self.assertEqual(outcome.store.pairs(), start if pairs is None else pairs)

    def test_put_and_copy(self):
        self.check("put @ 7", [], [("", 4), ("a", 7), ("ab", 2), ("b", 3), ("ba", 4)])
        self.check("put @@ 7", [], [("", 4), ("a", 1), ("aa", 7), ("ab", 2), ("b", 3), ("ba", 4)])
        self.check("copy ! @b", [], [("", 2), ("a", 1), ("ab", 2), ("b", 3), ("ba", 4)])
        self.check("copy ! @@", [])
        self.check("copy @ @", [])
        self.check("copy @@ @@", [])
        self.check("copy bb b@\nput b@ 0", [], PAIRS[:4] + [("ba", 0), ("bb", 4)])

    def test_take_and_keep(self):
        self.check("take under @", [], [("", 4), ("b", 3), ("ba", 4)])
        self.check("take key @ | key @@", [], [("", 4), ("ab", 2), ("b", 3), ("ba", 4)])
        self.check("keep under @", [], [("a", 1), ("ab", 2)])
        self.check("keep not under @", [], [("", 4), ("b", 3), ("ba", 4)])
        self.check("keep key bb", [], [])
        self.check("page 1 c under @\ntake all after c", [("page", (("a", 1),))], PAIRS[:2])

    def test_fill(self):
        self.check("fill 9 under @", [], [("", 4), ("a", 9), ("ab", 9), ("b", 3), ("ba", 4)])
        self.check("page 2 c all\nfill 0 all after c", [("page", tuple(PAIRS[:2]))], PAIRS[:2] + [("ab", 0), ("b", 0), ("ba", 0)])
        self.check("fill 1 key bb", [])

    def test_answers(self):
        self.check("tell @\ntell @@", [("tell", 1), ("tell", None)])
        self.check("list all", [("list", tuple(PAIRS))])
        self.check("list from ab to end - key b", [("list", (("ab", 2), ("ba", 4)))])
        self.check("list under bb", [("list", ())])
        self.check("count all\ncount under @\ncount under bb", [("count", 5), ("count", 2), ("count", 0)])
        self.check("last all\nlast under @\nlast under bb", [("last", ("ba", 4)), ("last", ("ab", 2)), ("last", None)])

    def test_pages(self):
        self.check("page 3 c all", [("page", tuple(PAIRS[:3]))])
        self.check("page 3 c under @", [("page", (("a", 1), ("ab", 2)))])
        self.check("page 1 c under bb", [("page", ())])
        self.check(
            "page 2 c all\npage 2 c all after c\npage 2 c all after c\npage 2 c all after c",
            [("page", tuple(PAIRS[:2])), ("page", tuple(PAIRS[2:4])), ("page", tuple(PAIRS[4:])), ("page", ())],
        )
        # Behind a find that holds nothing there is nothing, also if it held a key before.
        self.check(
            "page 1 c all\npage 1 c under bb\nlist all after c\ncount all after c\nlast all after c\npage 1 d all after c",
            [("page", (("", 4),)), ("page", ()), ("list", ()), ("count", 0), ("last", None), ("page", ())],
        )

    def test_finds_at_first_hold_nothing(self):
        self.check(
            "list all after to\ncount all after to\nlast all after to\npage 3 c all after to\ntake all after to\nfill 0 all after to",
            [("list", ()), ("count", 0), ("last", None), ("page", ())],
        )
        self.check("if found not\ntell @\nelse\ntell b\nend\nif some all after not\ntell @\nend", [("tell", 3)])

    def test_finds_hold_keys_that_are_gone(self):
        self.check(
            "page 2 c all\ntake all\nput a 6\nput aa 7\nlist all after c\nif found c\ntell a\nend",
            [("page", tuple(PAIRS[:2])), ("list", (("aa", 7),)), ("tell", 6)], [("a", 6), ("aa", 7)],
        )

    def test_finds_are_told_apart_by_their_names(self):
        self.check(
            "page 1 to all\npage 2 not all\nlist under @ after to\nlist all after not",
            [("page", (("", 4),)), ("page", tuple(PAIRS[:2])), ("list", tuple(PAIRS[1:3])), ("list", tuple(PAIRS[2:]))],
        )

    def test_pages_find_keys_that_were_put(self):
        self.check(
            "put aa 8\npage 2 c from a to end\nput aab 9\npage 1 c all after c",
            [("page", (("a", 1), ("aa", 8))), ("page", (("aab", 9),))],
            [("", 4), ("a", 1), ("aa", 8), ("aab", 9), ("ab", 2), ("b", 3), ("ba", 4)],
        )

    def test_blocks(self):
        self.check("if there @\ntell @\nelse\ntell b\nend", [("tell", 1)])
        self.check("if there @@\ntell @\nelse\ntell b\nend", [("tell", 3)])
        self.check("if there @@\ntell @\nend\ntell !", [("tell", 4)])
        self.check("if there @\nput @ 5\nif is @ 5\ntell @\nend\nelse\nend", [("tell", 5)], [("", 4), ("a", 5), *PAIRS[2:]])

    def test_names_at_which_made_texts_become_one_key(self):
        text = "put @a 1\nput a@ 2\ntell @a\ncount under a\nif same @a a@\ntell a@\nend"
        self.check(text, [("tell", 2), ("count", 1), ("tell", 2)], [("aa", 2)], "a", [])
        self.check(text, [("tell", 1), ("count", 1)], [("ab", 2), ("ba", 1)], "b", [])
        self.check("copy @a a@\ntake key a@\ntell @a", [("tell", None)], [], "a", [("aa", 3)])
        self.check("copy @a a@\ntake key a@\ntell @a", [("tell", 3)], [("ba", 3)], "b", [("ab", 3)])

    def test_each_test(self):
        store = Store(AB, PAIRS)
        for text, expected in (
            ("there @", True), ("there @@", False), ("is @ 1", True), ("is @ 2", False), ("is @@ 0", False),
            ("same ! b@", True), ("same @ b", False), ("same @ @", True), ("same @@ @@", False), ("same @ @@", False),
            ("same @@ @", False), ("some under @", True), ("some under @@", False), ("some all after c", False),
            ("found c", False), ("not there @", False), ("not found c", True), ("not not is @ 1", True),
        ):
            with self.subTest(text=text):
                test = Program.read(AB, f"if {text}\nend")[0].test
                self.assertIs(holds(test, AB, "a", store), expected)
                self.assertIs(holds(test=test, store=store, name="a", letters=AB), expected)
        self.assertEqual(store, Store(AB, PAIRS))
        self.assertIs(holds(There(Made("@")), AB, "", Store(AB)), False)

    def test_against_plain_tables(self):
        source = random.Random(3)
        for _ in range(400):
            letters = source.choice([AB, "-/0a"])
            program = Source(source, letters, random_texts(source, letters, 3), pages=6, depth=2).program(6, 3)
            for _ in range(4):
                name = random_text(source, letters, 3)
                store = random_store(source, letters)
                kept = store.copied()
                outcome = run(program, name, store)
                answers, table, _ = plain_run(program, name, store)
                self.assertEqual((outcome.answers, dict(outcome.store.pairs())), (answers, table), str(program))
                self.assertEqual(store, kept)

    def test_tests_against_plain_tables(self):
        source = random.Random(4)
        for _ in range(400):
            test = Source(source, AB, random_texts(source, AB, 2)).test()
            name = random_text(source, AB, 3)
            store = random_store(source, AB)
            self.assertIs(holds(test, AB, name, store), PlainRun(name, store.pairs()).holds(test), str(test))

    def test_the_store_that_is_passed_stays(self):
        store = Store(AB, PAIRS)
        outcome = run(Program.read(AB, "take all\nput @ 0"), "b", store)
        self.assertEqual(store.pairs(), PAIRS)
        self.assertEqual(outcome.store.pairs(), [("b", 0)])
        outcome.store["a"] = 1
        self.assertEqual(store.pairs(), PAIRS)
        same = run(Program(AB), "b", store)
        self.assertIsNot(same.store, store)
        store["bbb"] = 1
        self.assertEqual(same.store.pairs(), PAIRS)

    def test_answers_are_tuples(self):
        outcome = run(Program.read(AB, "list all\npage 1 c all\nlast all"), "", Store(AB, PAIRS))
        self.assertEqual(outcome.answers, (("list", tuple(PAIRS)), ("page", (("", 4),)), ("last", ("ba", 4))))
        self.assertEqual(run(Program(AB), "", Store(AB)).answers, ())

    def test_the_program_called(self):
        program = Program.read(AB, "list under @")
        store = Store(AB, PAIRS)
        self.assertEqual(program("a", store), run(name="a", store=store, program=program))
        with self.assertRaises(NoText):
            program("c", store)
        with self.assertRaises(Mismatch):
            program("a", Store("abc"))

    def test_errors(self):
        program = Program.read(AB, "put @ 1")
        for value in no_strings() + ["c", "a ", "@", "A"]:
            for store in (Store(AB), Store("abc")):
                with self.assertRaises(NoText) as caught:
                    run(program, value, store)
                self.assertIs(caught.exception.value, value)
        with self.assertRaises(Mismatch):
            run(program, "a", Store("abc"))
        wide = Zone.under("abc", Made("@"))
        for test in (There(Made("c")), Same(Made("@"), Made("@c")), Some(wide), Not(Some(wide)), Not(Not(There(Made("c"))))):
            with self.assertRaises(Mismatch):
                holds(test, AB, "a", Store(AB))

    def test_equality_of_outcomes(self):
        program = Program.read(AB, "count all")
        outcome = run(program, "a", Store(AB, PAIRS))
        self.assertEqual(outcome, run(program, "b", Store(AB, PAIRS)))
        self.assertNotEqual(outcome, run(Program(AB), "a", Store(AB, PAIRS)))
        self.assertNotEqual(outcome, run(program, "a", Store(AB, [*PAIRS[:4], ("ba", 5)])))
        self.assertNotEqual(run(program, "a", Store(AB)), run(Program("abc", program.rows[:0]), "a", Store("abc")))
        for value in (outcome.answers, outcome.store, None, (outcome.answers, outcome.store), "count"):
            self.assertFalse(outcome == value)
        self.assertIsInstance(outcome, Outcome)

    def test_the_same_call_again(self):
        program = Program.read(AB, "page 1 c all\ntake all after c\nlist all")
        store = Store(AB, PAIRS)
        first = program("a", store)
        program("b", Store(AB))
        self.assertEqual(program("a", store), first)

    def test_found_in_blocks(self):
        program = Program.read(AB, "page 1 c under @\nif not found c\nput @ 1\npage 1 c all\nend\nlist all after c")
        self.assertEqual(program("b", Store(AB)).answers, (("page", ()), ("page", (("b", 1),)), ("list", ())))
        self.assertIs(holds(Found("c"), AB, "", Store(AB)), False)


if __name__ == "__main__":
    unittest.main()
