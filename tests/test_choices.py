import random
import time
import unittest
from itertools import combinations

from tests.plain_runs import plain_run
from tests.some_programs import Source, least_by_search, place_of, random_texts, short_names, stores
from undername.alike import alike
from undername.choices import broken, can_run, fewest_rows, idle_rows, page_fault
from undername.errors import Mismatch
from undername.made import Made
from undername.names import Names
from undername.programs import Program
from undername.rows import Is, Not, Page, Same, Some, There
from undername.runs import holds, run
from undername.stores import Store
from undername.zones import Zone

AB = "ab"
HERE = There(Made("@"))
ALL = Zone.everything(AB)


def read(text):
    return Program.read(AB, text)


def found_pair(found):
    return None if found is None else (found[0], found[1].pairs())


def found_rows(found):
    return [(at, found_pair(pair)) for at, pair in found]


def fewest_by_search(program, **how):
    """The program of the fewest rows that is alike, by trying all, least kept places first."""
    tried = [
        (Program(program.letters, [program.rows[at] for at in kept]), kept)
        for size in range(len(program.rows) + 1) for kept in combinations(range(len(program.rows)), size)
    ]
    for fewer, _ in sorted(tried, key=lambda pair: (len(pair[0]), pair[1])):
        if alike(program, fewer, **how):
            return fewer


class ChoicesTest(unittest.TestCase):
    def test_rows_that_can_run(self):
        for text, expected, how in (
            ("", [], {}), ("tell @\nput @ 1", [(0, ("", [])), (1, ("", []))], {}),
            ("if there @\ntell @\nelse\ntell a\nend", [(0, ("", [])), (1, ("", [("", 0)])), (2, ("", []))], {}),
            ("if found c\ntell @\nend", [(0, ("", []))], {}),
            ("put @ 1\nif there @\nput a 1\nelse\nput b 1\nput b 2\nend\ntell a",
             [(0, ("", [])), (1, ("", [])), (2, ("", [])), (5, ("", []))], {}),
            ("if same a b\nif is a 7\ntell @\nelse\ntell a\nend\nend",
             [(0, ("", [])), (1, ("", [("a", 0), ("b", 0)])), (2, ("", [("a", 7), ("b", 7)])), (3, ("", [("a", 0), ("b", 0)]))], {}),
            ("page 2 c under @\nif some all after c\ntell @\nend", [(0, ("", [])), (1, ("", [])), (2, ("", [("", 0), ("a", 0), ("aa", 0)]))],
             {}),
            ("put @ab 1\ntake key ab@\nif not there @ab\ntell @\nend",
             [(0, ("", [])), (1, ("", [])), (2, ("", [])), (3, ("", []))], {}),
            ("put @a 1\ntake key a@\nif there @a\ntell @\nend", [(0, ("", [])), (1, ("", [])), (2, ("", [])), (3, ("b", []))], {}),
            ("put @a 1\ntake key a@\nif there @a\ntell @\nend",
             [(0, ("a", [])), (1, ("a", [])), (2, ("a", [])), (3, ("ab", []))], {"names": Names.beginning(AB, "a")}),
            ("tell @\nif there @\ntell a\nend", [], {"names": Names.none(AB)}),
            ("tell @\nif there @\ntell a\nend", [(0, ("", [])), (1, ("", []))], {"where": [Not(HERE)]}),
            ("tell @\nif there @\ntell a\nend", [(0, ("", [("", 0)])), (1, ("", [("", 0)])), (2, ("", [("", 0)]))], {"where": (HERE,)}),
            ("tell @", [], {"where": [HERE, Not(HERE)]}),
            ("if is @ 3\nelse\ntell @\nend", [(0, ("", [("", 3)]))], {"where": [Is(Made("@"), 3)]}),
        ):
            with self.subTest(text=text, **how):
                found = can_run(read(text), **how)
                self.assertIsInstance(found, tuple)
                self.assertEqual(found_rows(found), expected)

    def test_rows_that_can_run_against_plain_search(self):
        source = random.Random(11)
        some_stores = list(stores(AB, 3, 2, range(2)))
        names = short_names(AB, 2)
        for _ in range(40):
            drawn = Source(source, AB, random_texts(source, AB, source.randint(1, 2)), pages=source.choice([0, 1]))
            program = drawn.program(3, 3)
            where = [drawn.test(False) for _ in range(source.choice([0, 0, 1]))]
            if len(program) > 9:
                continue
            found = dict(can_run(program, where=where))
            self.assertEqual(list(found), sorted(found))
            searched = {}
            for name in names:
                for store in some_stores:
                    if all(holds(test, AB, name, store) for test in where):
                        for at in plain_run(program, name, store)[2]:
                            searched.setdefault(at, (name, store))
            for at, pair in searched.items():
                self.assertIn(at, found, str(program))
                self.assertLessEqual(place_of(found[at]), place_of(pair))
            for at, (name, store) in found.items():
                self.assertTrue(all(holds(test, AB, name, store) for test in where))
                self.assertIn(at, plain_run(program, name, store)[2])

    def test_idle_rows(self):
        for text, expected, how in (
            ("", (), {}), ("tell @", (), {}), ("put @ 1\nput @ 1", (0, 1), {}), ("put @ 1\nput @ 2", (0,), {}),
            ("put @a 1\nput a@ 2", (), {}), ("put @a 1\nput @a 2\nput a@ 2", (0,), {}),
            ("if there @\ncopy @ @\nend\ntell @", (0, 1), {}), ("if there @\ntell @\nelse\ntell @\nend", (), {}),
            ("if there a\nput b 1\nelse\nput b 1\nput b 1\nend", (2, 3), {}), ("take key a & key b\nkeep all\ntell b", (0, 1), {}),
            ("if found c\ntell @\nput @ 1\nend", (0, 1, 2), {}), ("tell @\nput a 1", (1,), {"store": False}),
            ("tell @\nput a 1", (0,), {"answers": False}), ("tell @\nput a 1", (0, 1), {"answers": False, "store": False}),
            ("put @ 1", (0,), {"where": [Is(Made("@"), 1)]}), ("put @ 1", (0,), {"names": Names.none(AB)}),
            ("put @a 1\nput a@ 1", (), {}), ("put @a 1\nput a@ 1", (0, 1), {"names": Names.family(AB, "a", "")}),
        ):
            with self.subTest(text=text, **how):
                self.assertEqual(idle_rows(read(text), **how), expected)

    def test_fewest_rows(self):
        for text, expected, how in (
            ("", "", {}), ("tell @", "tell @", {}), ("put @ 1\nput @ 1", "put @ 1", {}), ("put @ 1\nput @ 2\nput @ 1", "put @ 1", {}),
            ("put @ 1\nput @ 2", "put @ 2", {}), ("if found c\ntell @\nend\nkeep all", "", {}),
            # A block is there with all its rows, so the two others are fewer.
            ("if there @\ntake key @\nelse\ntake key @\nend\ntake key @", "take key @", {}),
            ("take key @\nif there @\ntake key @\nend", "take key @", {}),
            ("if there @\nif there @\nkeep all\nend\nend\ntell @", "tell @", {}),
            # Either of the two would do: the first places count.
            ("fill 1 key @\nfill 1 key @ & under @", "fill 1 key @", {}),
            ("fill 1 key @ & under @\nfill 1 key @", "fill 1 key @ & under @", {}),
            ("tell @\nput a 1\nput a 1", "tell @", {"store": False}), ("tell @\nput a 1\nput a 1", "put a 1", {"answers": False}),
            ("tell @\nput a 1", "", {"answers": False, "store": False}), ("put @ 1\nput a 2", "put a 2", {"where": [Is(Made("@"), 1)], "names": ~Names.of(AB, ["a"])}),
            ("put @ 1", "", {"names": Names.none(AB)}),
        ):
            with self.subTest(text=text, **how):
                found = fewest_rows(read(text), **how)
                self.assertEqual(found, read(expected))

    def test_kept_places(self):
        # The rows 0 and 3, 1 and 2, or 1 and 3 would do, too: 0 and 1 are the least places.
        program = read("fill 1 under a\nfill 1 under b\nfill 1 under a & all\nfill 1 under b & all")
        self.assertEqual(str(fewest_rows(program)), "fill 1 under a\nfill 1 under b")
        program = read("fill 1 under a & all\nfill 1 under a\nfill 1 under b\nfill 1 under b & all")
        self.assertEqual(str(fewest_rows(program)), "fill 1 under a & all\nfill 1 under b")
        program = read("if there @\nfill 1 all\nelse\nfill 1 all\nend\nfill 1 under a\nfill 1 not under a")
        self.assertEqual(str(fewest_rows(program)), "fill 1 under a\nfill 1 not under a")

    def test_rows_to_leave_out_against_plain_search(self):
        source = random.Random(12)
        for _ in range(50):
            drawn = Source(source, AB, random_texts(source, AB, source.randint(1, 2)), pages=source.choice([0, 1]))
            program = drawn.program(source.randint(2, 4))
            how = {
                "where": [drawn.test(False) for _ in range(source.choice([0, 0, 1]))],
                "names": source.choice([None, Names.beginning(AB, "a")]),
                **source.choice([{}, {}, {"answers": False}, {"store": False}]),
            }
            if program.pages > 1:
                continue
            idle = tuple(at for at in range(len(program)) if alike(program, program.without(at), **how))
            self.assertEqual(idle_rows(program, **how), idle, str(program))
            self.assertEqual(fewest_rows(program, **how), fewest_by_search(program, **how), str(program))

    def test_conditions_that_are_kept(self):
        for text, tests in (
            ("put @ 1", [HERE]), ("tell @", [HERE]), ("take under @a", [HERE]), ("fill 1 all", [HERE, Some(ALL)]),
            ("copy a@ @", [Same(Made("@"), Made("@"))]), ("put @ 2", [Not(Is(Made("@"), 1))]), ("take all", [Not(HERE)]),
            ("take all", []), ("", [HERE]), ("put @ 1", [HERE, Not(HERE)]), ("if there @\ntake key a\nend", [Not(HERE)]),
            ("keep under @", [Some(Zone.under(AB, Made("@")))]),
        ):
            with self.subTest(text=text):
                self.assertIsNone(broken(read(text), tests))

    def test_conditions_that_are_broken(self):
        under = Some(Zone.under(AB, Made("@a")))
        for text, tests, expected, how in (
            ("take under @", [HERE], ("", [("", 0)]), {}), ("put @ 1", [Not(HERE)], ("", []), {}),
            ("put a 1", [Is(Made("a"), 0), HERE], ("", [("", 0), ("a", 0)]), {}),
            ("put a 1", (Is(Made("a"), 0), HERE), ("a", [("a", 0)]), {"names": ~Names.of(AB, [""])}),
            ("take key @a", [under], ("", [("a", 0)]), {}), ("take key a", [under, HERE], ("", [("", 0), ("a", 0)]), {}),
            ("put @ 3", [Same(Made("@"), Made("a"))], ("", [("", 0), ("a", 0)]), {}),
            ("put @ 0", [Same(Made("@"), Made("a"))], ("", [("", 1), ("a", 1)]), {}),
            ("put @ 0", [Same(Made("@"), Made("a"))], ("", [("", 5), ("a", 5)]), {"where": [Is(Made("a"), 5)]}),
            ("take key @", [HERE], None, {"where": [Not(HERE)]}), ("take key @", [HERE], ("b", [("b", 0)]), {"names": Names.beginning(AB, "b")}),
            ("take key @", [HERE], None, {"names": Names.none(AB)}),
            ("take key a@", [There(Made("@a"))], ("", [("a", 0)]), {}),
            ("take key a@", [There(Made("@a"))], ("a", [("aa", 0)]), {"names": ~Names.of(AB, [""])}),
            ("take key ab@", [There(Made("@ab"))], ("ab", [("abab", 0)]), {"names": ~Names.of(AB, [""])}),
        ):
            with self.subTest(text=text, **how):
                self.assertEqual(found_pair(broken(read(text), tests, **how)), expected)

    def test_conditions_against_plain_search(self):
        source = random.Random(13)
        some_stores = list(stores(AB, 3, 2, range(2)))
        names = short_names(AB, 2)
        for _ in range(70):
            drawn = Source(source, AB, random_texts(source, AB, source.randint(1, 2)), pages=source.choice([0, 1]))
            program = drawn.program(source.randint(1, 3))
            tests = [drawn.test(False) for _ in range(source.choice([1, 1, 2]))]
            where = [drawn.test(False) for _ in range(source.choice([0, 0, 1]))]

            def is_broken(name, store):
                if not all(holds(test, AB, name, store) for test in where + tests):
                    return False
                end = run(program, name, store).store
                return not all(holds(test, AB, name, end) for test in tests)

            self.compare(broken(program, tests, where=where), least_by_search(AB, names, some_stores, is_broken), is_broken)

    def compare(self, found, searched, is_it):
        if found is not None:
            self.assertTrue(is_it(*found))
        if searched is not None:
            self.assertIsNotNone(found)
            self.assertLessEqual(place_of(found), place_of(searched))

    def test_pages_without_fault(self):
        under = Zone.under(AB, Made("@"))
        for text, zone in (
            ("", ALL), ("tell @\nlist all", under), ("page 2 c all", ALL), ("page 1 c all\npage 2 c all after c", ALL),
            ("page 1 c under @\npage 1 d under @ after c\npage 1 c under @ after d", under),
            ("page 1 c from @ to past @\npage 2 d under @ after c", under),
            ("page 1 c under @", under), ("page 3 c under @ after d", ALL),
            ("page 1 c all\nput @ 7\ntake under @", ALL), ("if there @\npage 1 c all\nelse\npage 2 c all\nend", ALL),
            ("page 2 c all - key a & all", Zone.read(AB, "not key a")),
        ):
            with self.subTest(text=text):
                self.assertIsNone(page_fault(read(text), zone))

    def test_pages_with_fault(self):
        under = Zone.under(AB, Made("@"))
        for text, zone, expected, how in (
            ("page 1 c all", under, ("a", [("", 0)]), {}), ("page 1 c under @", ALL, ("a", [("", 0), ("a", 0)]), {}),
            ("page 1 c all\npage 1 c all", ALL, ("", [("", 0)]), {}),
            ("page 2 c all\npage 1 d all", ALL, ("", [("", 0)]), {}),
            ("put @ 1\npage 1 c all", ALL, ("", []), {}), ("fill 3 all\npage 1 c all", ALL, ("", [("", 0)]), {}),
            ("fill 0 all\npage 1 c all", ALL, ("", [("", 1)]), {}), ("take key @\npage 1 c all", ALL, ("", [("", 0), ("a", 0)]), {}),
            ("page 1 c all\npage 1 c not under a after c", ALL, ("", [("", 0), ("a", 0), ("b", 0)]), {}),
            ("page 1 c all", under, ("b", [("", 0)]), {"names": Names.beginning(AB, "b")}),
            ("page 1 c all", under, None, {"names": Names.of(AB, [""])}),
            ("page 1 c all", under, None, {"where": [Not(Some(~under))]}),
            ("page 1 c all", under, ("a", [("", 0), ("a", 0)]), {"where": [HERE]}),
            ("page 1 c under @\npage 1 d all after c", under, ("a", [("a", 0), ("b", 0)]), {}),
        ):
            with self.subTest(text=text, **how):
                self.assertEqual(found_pair(page_fault(read(text), zone, **how)), expected)

    def test_pages_against_plain_search(self):
        source = random.Random(14)
        some_stores = list(stores(AB, 2, 3, range(1))) + list(stores(AB, 3, 2, range(2)))
        some_stores = sorted(some_stores, key=lambda store: place_of(("", store)))
        names = short_names(AB, 2)
        faults = 0
        for _ in range(120):
            drawn = Source(source, AB, random_texts(source, AB, source.randint(1, 2)), pages=source.choice([1, 2, 3]))
            program = drawn.program(source.randint(1, 3))
            if not program.pages or program.pages > 3:
                continue
            pages = [program[at] for at in range(len(program)) if isinstance(program[at], Page)]
            zone = source.choice([pages[0].zone, drawn.zone()])
            where = [drawn.test(False) for _ in range(source.choice([0, 0, 1]))]

            def is_fault(name, store):
                if not all(holds(test, AB, name, store) for test in where):
                    return False
                answered = [pair for word, page in plain_run(program, name, store)[0] if word == "page" for pair in page]
                return answered != [pair for pair in store.pairs() if zone.has(name, pair[0])][:len(answered)]

            found = page_fault(program, zone, where=where)
            faults += found is not None
            self.compare(found, least_by_search(AB, names, some_stores, is_fault), is_fault)
        self.assertGreater(faults, 3)

    def test_mismatch(self):
        program = read("tell @")
        wide = Zone.everything("abc")
        for function in (
            can_run, idle_rows, fewest_rows, lambda p, **how: broken(p, [HERE], **how), lambda p, **how: page_fault(p, ALL, **how),
        ):
            for how in (
                {"names": Names.every("abc")}, {"where": [Some(wide)]}, {"where": [HERE, Not(There(Made("c")))]},
                {"where": (Same(Made("@"), Made("c@")),)},
            ):
                with self.assertRaises(Mismatch):
                    function(program, **how)
        for work in (
            lambda: broken(program, [There(Made("c"))]), lambda: broken(program, (HERE, Not(Some(wide)))),
            lambda: page_fault(program, wide), lambda: page_fault(Program("abc"), ALL),
        ):
            with self.assertRaises(Mismatch):
                work()

    def test_arguments_by_name(self):
        program = read("page 1 c all\ntake key @")
        where = [HERE]
        names = Names.every(AB)
        self.assertEqual(found_rows(can_run(where=where, names=names, program=program)), found_rows(can_run(program, where=where)))
        for function in (idle_rows, fewest_rows):
            self.assertEqual(
                function(store=True, answers=True, where=(), names=None, program=program), function(program)
            )
        self.assertEqual(found_pair(broken(tests=[HERE], program=program, where=where, names=names)), ("", [("", 0)]))
        self.assertIsNone(page_fault(zone=ALL, program=program, where=where, names=names))
        for work in (
            lambda: can_run(program, None), lambda: idle_rows(program, None), lambda: fewest_rows(program, None),
            lambda: broken(program, [HERE], None), lambda: page_fault(program, ALL, None),
        ):
            with self.assertRaises(TypeError):
                work()

    def test_what_is_handed_in_stays(self):
        program = read("page 1 c all\ntake key @")
        tests, where = [HERE], [Some(ALL)]
        first = found_pair(broken(program, tests, where=where))
        found = broken(program, tests, where=where)
        found[1]["a"] = 9
        fewest_rows(program, where=where)
        self.assertEqual(found_pair(broken(program, tests, where=where)), first)
        self.assertEqual((tests, where, str(program)), ([HERE], [Some(ALL)], "page 1 c all\ntake key @"))

    def test_limits_in_reasonable_time(self):
        source = random.Random(15)
        began = time.monotonic()
        for _ in range(60):
            drawn = Source(source, "abcd", random_texts(source, "abcd", 3), pages=1, values=3, depth=2)
            program = drawn.program(4, 2)
            if len(program) <= 8:
                can_run(program)
                fewer = fewest_rows(program)
                self.assertLessEqual(len(fewer), len(program))
                self.assertIs(alike(program, fewer), True)
                for at in idle_rows(program):
                    self.assertIs(alike(program, program.without(at)), True)
        self.assertLess(time.monotonic() - began, 60)


if __name__ == "__main__":
    unittest.main()
