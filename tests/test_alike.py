import random
import time
import unittest
from itertools import product

from tests.any_values import ascending, random_text
from tests.some_programs import Source, are_parted, least_by_search, place_of, random_texts, short_names, stores
from undername.alike import alike, least_parting, parting_names
from undername.errors import Mismatch
from undername.made import Made
from undername.names import Names
from undername.orders import told_names
from undername.programs import Program
from undername.rows import Is, Not, Page, Same, Some, There
from undername.runs import holds
from undername.stores import Store
from undername.texts import room
from undername.zones import Zone

AB = "ab"
SLASH = "-/0a"


def read(text, letters=AB):
    return Program.read(letters, text)


def found_pair(found):
    return None if found is None else (found[0], found[1].pairs())


class AlikeTest(unittest.TestCase):
    def parts(self, one, other, expected, letters=AB, **how):
        """Check that the least pair is the one expected, in all three functions and both directions."""
        p, q = read(one, letters), read(other, letters)
        with self.subTest(one=one, other=other, **how):
            self.assertEqual(found_pair(least_parting(p, q, **how)), expected)
            self.assertEqual(found_pair(least_parting(q, p, **how)), expected)
            self.assertIs(alike(p, q, **how), expected is None)
            self.assertIs(alike(q, p, **how), expected is None)
            self.assertEqual(parting_names(p, q, **how).least, None if expected is None else expected[0])

    def test_programs_that_are_alike(self):
        for one, other in (
            ("", ""), ("put @ 1", "put @ 2\nput @ 1"), ("put @ 1\nput a@ 1", "put a@ 1\nput @ 1"),
            ("list under @a", "list from @a to from @b"), ("take all", "keep key !\ntake key !"),
            ("put @ 1\ntell @", "put @ 1\nif is @ 1\ntell @\nend"), ("copy @ @", ""), ("copy b@ b@", "keep all"),
            ("if there @\ntell @\nelse\ntell @\nend", "tell @"), ("if same @ @\nelse\nput a 1\nend", "if there @\nelse\nput a 1\nend"),
            ("if same @ a@\ncopy @ a@\nend", ""), ("if is @ 3\nput @ 3\nend", ""), ("fill 1 key @", "if there @\nput @ 1\nend"),
            ("last key @", "last key @ & under @"), ("count under @ | all", "count all"),
            ("page 1 c under @\ntake under @ after c\ntake key a & key b", "page 1 d under @\ntake under @ after d"),
            ("if some under @\nelse\ntake under @\nend", ""), ("if not found c\ntell @\nend", "tell @"),
            ("list all after c", "list key a - all"), ("page 1 c all\npage 1 c all after d", "page 1 c all\npage 1 c under @ & not under @"),
        ):
            self.parts(one, other, None)
            self.assertIs(alike(read(one), read(one)), True)

    def test_programs_that_part(self):
        for one, other, expected in (
            ("put @ 1", "put @ 2", ("", [])), ("tell @", "tell a@", ("", [("", 0)])), ("put @ 1", "", ("", [])),
            ("fill 0 all", "", ("", [("", 1)])), ("fill 1 all", "", ("", [("", 0)])), ("fill 0 all", "fill 1 all", ("", [("", 0)])),
            ("take under @", "take key @", ("", [("a", 0)])), ("list all", "count all", ("", [])),
            ("count under @", "count key @", ("", [("a", 0)])), ("put aa 1", "put @@ 1", ("", [])),
            ("copy a b", "", ("", [("b", 0)])), ("if is b 5\nput b 6\nend", "", ("", [("b", 5)])),
            ("if same a b\ntake key b\nend", "", ("", [("a", 0), ("b", 0)])),
            ("if same a b\nelse\ntake under b\nend", "", ("", [("b", 0)])),
            ("copy a b", "copy a b\ncopy b a", ("", [("a", 0)])),
            ("if there a\ncopy a b\nend", "", ("", [("a", 0), ("b", 1)])),
            ("if there b\nif there a\ncopy a b\nif is a 0\ntell a\nend\nend\nend", "if there b\ncopy a a\nif there a\ncopy a b\nend\nend",
             ("", [("a", 0), ("b", 0)])),
            ("list key @ | under a@", "list key @ | under @a", ("b", [("ab", 0)])),
            ("last all", "page 1 c all", ("", [])), ("page 1 c all\nlist all after c", "page 1 c all\nlist all", ("", [("", 0)])),
            ("page 1 c all\ncount all after c", "page 2 c all\ncount all after c", ("", [("", 0), ("a", 0)])),
            ("last under @", "last all", ("a", [("", 0)])), ("tell ab", "tell @b", ("", [("ab", 0)])),
        ):
            self.parts(one, other, expected)

    def test_the_last_key_of_a_gap(self):
        self.parts("page 1 c all\nlast all", "page 1 c all\nlast all after c", ("", [("", 0)]))
        self.parts("page 2 c all\nlast all", "page 2 c all\ntake all after c\nlast all",
                   ("", [("", 0), ("a", 0), ("aa", 0)]))
        self.parts("page 1 c all\nlast all after c", "page 1 c all\nfill 3 all after c\nlast all after c",
                   ("", [("", 0), ("a", 0)]))

    def test_finds_within_a_gap(self):
        for one, other, expected in (
            ("page 1 c all\nlast all", "page 1 c all\ntake all after c\nlast all", [("", 0), ("a", 0)]),
            ("page 2 c all\nlist all", "page 2 c all\nlist all after c", [("", 0)]),
            ("page 2 c all\ntake all after c\nlist all", "page 2 c all\nlist all", [("", 0), ("a", 0), ("aa", 0)]),
            ("page 2 c all\nfill 0 all after c\nlist all", "page 2 c all\nlist all", [("", 0), ("a", 0), ("aa", 1)]),
            ("page 1 c all\nfill 0 all after c\nlast all", "page 1 c all\nlast all", [("", 0), ("a", 1)]),
            ("page 1 c all\ncount all after c", "page 1 c all\ntake all after c\ncount all", [("", 0)]),
        ):
            self.parts(one, other, ("", expected), store=False)
        for one, other, expected in (
            ("take all after c", "", [("", 0), ("a", 0), ("aa", 0)]), ("fill 0 all after c", "", [("", 0), ("a", 0), ("aa", 1)]),
            ("take all after c\nfill 1 all", "fill 1 all", [("", 0), ("a", 0), ("aa", 0)]),
            ("fill 1 all\ntake all after c", "take all after c\nfill 1 all", None),
            ("fill 0 all after c\nfill 1 all", "fill 1 all", None),
        ):
            expected = None if expected is None else ("", expected)
            self.parts(f"page 2 c all\n{one}", f"page 2 c all\n{other}" if other else "page 2 c all", expected, answers=False)
        self.parts("page 2 c all\npage 1 d all\ntake all after d\nfill 1 all after c\nfill 3 all",
                   "page 1 d all\ntake all after d\nfill 3 all", None, answers=False)
        self.parts("put a 1\nput b 1\npage 1 c all", "put b 1\nput a 1\npage 1 c not under b", None, where=[There(Made("a"))])

    def test_keys_behind_finds(self):
        self.parts("page 1 c all\nlast all after c", "page 1 c all\nlast key a & key b", ("", [("", 0), ("a", 0)]))
        self.parts("page 1 c under b\nlist all after c", "page 1 c under b\nlist under b after c", None)
        self.parts("page 1 c under b\ntake all after c", "page 1 c under b\ntake under b after c", None)
        self.parts("page 1 c under b\nlast all after c", "page 1 c under b\nlast under b after c", None)
        self.parts("page 1 c under b\nlist all after c", "page 1 c under b\nlist all", ("", [("", 0)]))
        self.parts("page 1 c key a\nlist all after c", "page 1 c key a\nif there a\nlist behind a to end\nelse\nlist key a - all\nend", None)
        guard = "page 1 c all\nif some all after c\ntake all after c\n"
        self.parts(f"{guard}last all\nend", f"{guard}last key a & key b\nend", ("", [("", 0), ("a", 0)]))
        for text in ("last all\npage 2 c all\nif some all after c\nend", "last all\npage 1 c all\npage 1 d all after c\nlast all after d"):
            self.parts(text, text, None)

    def test_the_last_key_is_one_that_was_put(self):
        self.parts("put b 1\nlast under b", "put b 1\nlast key b | under ba", ("", [("bb", 0)]))
        self.parts("put b 1\nlast key b", "put b 1\npage 1 c key b", ("", []))
        self.parts("put b 1\nlast all - under ba - under bb", "put b 1\nlast key b", None)
        self.parts("put b 1\nlast key b", "last key b\nput b 1", ("", []))
        self.parts("put b 1\nput ba 2\nlast key b | key ba", "put b 1\nput ba 2\nlast key ba", None)

    def test_words_of_answers(self):
        where = [There(Made("b"))]
        for one, other, expected in (
            ("list all", "list all - key !", [("", 0), ("b", 0)]), ("count all", "count all - key !", [("", 0), ("b", 0)]),
            ("list key b", "last key b", [("b", 0)]), ("count key b", "tell b", [("b", 0)]), ("list key b", "page 1 c key b", [("b", 0)]),
            ("fill 1 key b\ncount key b", "count key b\nfill 1 key b", None), ("fill 1 key b\nlist key b", "list key b\nfill 1 key b", [("b", 0)]),
            ("fill 1 key b\nlast key b", "last key b\nfill 1 key b", [("b", 0)]), ("last all", "last not key !", None),
            ("list under b\nlist under a", "list under a\nlist under b", [("b", 0)]),
        ):
            self.parts(one, other, None if expected is None else ("", expected), where=where)

    def test_pages_against_plain_search(self):
        source = random.Random(19)
        some_stores = [*stores(AB, 2, 3, range(1)), *stores(AB, 2, 2, range(2)), *stores(AB, 1, 3, range(3))]
        some_stores = sorted(some_stores, key=lambda store: place_of(("", store)))
        alikes = 0
        for _ in range(300):
            texts = source.choice([["@"], [""], ["b"], ["@a", "a@"]])
            drawn = Source(source, AB, texts, pages=source.choice([1, 2]), values=source.choice([1, 2]), finds=("c",))
            zone = source.choice([Zone.everything(AB), drawn.zone()])
            first = Page(zone, source.randint(1, drawn.pages), "c")
            drawn.pages -= first.count
            p = Program(AB, [first, *[drawn.row(1) for _ in range(source.randint(1, 3))]])
            drawn.pages = 0
            q = drawn.changed(p)
            if p.pages + q.pages > 3:
                continue
            compared = source.choice([{}, {"answers": False}, {"store": False}])
            is_it = self.parted(p, q, (), compared)
            found = least_parting(p, q, **compared)
            alikes += found is None
            searched = least_by_search(AB, ["", source.choice(["a", "b", "ab"])], some_stores, is_it)
            with self.subTest(p=str(p), q=str(q), **compared):
                self.assertTrue(found is None or is_it(*found))
                if searched is not None:
                    self.assertIsNotNone(found)
                    self.assertLessEqual(place_of(found), place_of(searched))
        self.assertGreater(alikes, 50)

    def test_values_that_part(self):
        # The constants are taken, so the least value that parts is another one.
        self.parts("if is @ 0\nelse\nif is @ 1\nelse\nif there @\ntell @\nend\nend\nend", "", ("", [("", 2)]))
        self.parts("if is @ 999999999999999999\ntell @\nend", "", ("", [("", 10**18 - 1)]))
        self.parts("if there a\nif there b\nif not same a b\ntell b\nend\nend\nend", "", ("", [("a", 0), ("b", 1)]))
        self.parts(
            "if there a\nif there b\nif not same a b\nif not is a 0\nif not is b 0\ntell a\nend\nend\nend\nend\nend", "",
            ("", [("a", 1), ("b", 2)]),
        )

    def test_names_at_which_keys_become_one(self):
        self.parts("put @a 1\nput a@ 2", "put a@ 2\nput @a 1", ("", []))
        self.parts("put @ab 1\nput ab@ 2", "put ab@ 2\nput @ab 1", ("", []))
        apart = ~Names.family(AB, "a", "")
        self.parts("put @a 1\nput a@ 2", "put a@ 2\nput @a 1", None, names=apart)
        self.assertEqual(parting_names(read("put @a 1\nput a@ 2"), read("put a@ 2\nput @a 1")), Names.family(AB, "a", ""))

    def test_ranges_of_services(self):
        self.parts("take from @/ to from @0", "take under @/", None, SLASH)
        self.parts("take from @ to from @0", "take under @", ("", [("0", 0)]), SLASH)
        self.parts("list under @/ - under @/@", "list under @/", ("", [("/", 0)]), SLASH)
        self.parts("list under u/@/", "list under u/", None, "/u", names=Names.none("/u"))

    def test_answers_or_stores_alone(self):
        self.parts("tell @", "", None, answers=False)
        self.parts("tell @", "", ("", []), store=False)
        self.parts("put @ 1", "", None, store=False)
        self.parts("put @ 1", "", ("", []), answers=False)
        self.parts("put @ 1\ntell a", "tell b\nput @ 2", None, answers=False, store=False)
        self.parts("take under @\nlist all", "list all - under @", None, store=False)

    def test_names(self):
        for names, expected in (
            (Names.every(AB), ("", [])), (Names.none(AB), None), (Names.beginning(AB, "b"), ("b", [])),
            (~Names.of(AB, ["", "a", "b"]), ("aa", [])), (Names.of(AB, ["bab", "abab"]), ("bab", [])),
        ):
            self.parts("put @ 1", "", expected, names=names)
        self.parts("tell @b", "tell b@", ("a", [("ab", 0)]))
        self.parts("tell @b", "tell b@", None, names=Names.of(AB, ["", "b", "bb"]))
        self.parts("tell @b", "tell b@", ("ba", [("bab", 0)]), names=Names.beginning(AB, "b"))

    def test_where(self):
        here, there = There(Made("@")), There(Made("a@"))
        for one, other, where, expected in (
            ("tell @", "", [Not(Not(here))], ("", [("", 0)])), ("take key @", "", [Not(here)], None),
            ("take key @", "", (here,), ("", [("", 0)])), ("put @ 1", "", [Is(Made("@"), 1)], None),
            ("put @ 1", "", [here, Not(Is(Made("@"), 1))], ("", [("", 0)])),
            ("copy @ a@", "", [Same(Made("@"), Made("a@"))], None), ("copy @ a@", "", [there], ("", [("a", 0)])),
            ("copy @ a@", "", [there, here], ("", [("", 0), ("a", 1)])),
            ("take all", "take under @", [Not(Some(Zone.read(AB, "not under @")))], None),
            ("take all", "", [Some(Zone.read(AB, "under @a")), Not(There(Made("@a")))], ("", [("aa", 0)])),
            ("put @ 1", "", [here, Not(here)], None), ("put @ 1", "put @ 2", [Is(Made("b"), 3), there], ("", [("a", 0), ("b", 3)])),
        ):
            self.parts(one, other, expected, where=where)
        self.parts("take key @", "", ("b", [("a", 0), ("b", 0)]),
                   where=[here, There(Made("a"))], names=Names.beginning(AB, "b"))

    def test_bounds_of_tests_count(self):
        # At the told names of both programs alone all is the same.
        zone = Zone.read(AB, "under bab@")
        self.parts("tell bab@", "tell bab@", None, where=[Some(zone)])
        # Only for this name can the one key of the store be both.
        where = [There(Made("@")), There(Made("aab")), Not(Some(Zone.read(AB, "not key aab")))]
        self.parts("put b 1", "put b 2", ("aab", [("aab", 0)]), where=where)

    def test_against_plain_search(self):
        source = random.Random(5)
        names = short_names(AB, 2)
        some_stores = list(stores(AB, 3, 2, range(2)))
        fewer = list(stores(AB, 2, 3, range(1)))
        alikes = 0
        for at in range(160):
            drawn = Source(source, AB, random_texts(source, AB, source.randint(1, 3)), pages=source.choice([0, 1, 2]))
            p = drawn.program(source.randint(1, 4))
            q = drawn.changed(p) if source.random() < 0.7 else drawn.program(source.randint(1, 3))
            if p.pages + q.pages > 3:
                continue
            how = {"where": [drawn.test(False) for _ in range(source.choice([0, 0, 1, 2]))]}
            compared = source.choice([{}, {}, {"answers": False}, {"store": False}])
            meant = source.choice([None, None, Names.beginning(AB, "b"), ~Names.of(AB, ["", "ab"])])
            found = least_parting(p, q, names=meant, **how, **compared)
            alikes += found is None
            self.assertIs(alike(p, q, names=meant, **how, **compared), found is None)
            is_it = self.parted(p, q, how["where"], compared)
            searched = least_by_search(
                AB, [name for name in names if meant is None or name in meant], fewer if at % 4 == 0 else some_stores, is_it
            )
            with self.subTest(p=str(p), q=str(q)):
                if found is not None:
                    self.assertTrue(is_it(*found))
                    self.assertTrue(meant is None or found[0] in meant)
                if searched is not None:
                    self.assertIsNotNone(found)
                    self.assertLessEqual(place_of(found), place_of(searched))
        self.assertGreater(alikes, 20)

    def parted(self, p, q, where, compared):
        answers, ends = compared.get("answers", True), compared.get("store", True)
        return lambda name, store: are_parted(p, q, name, store, where, answers, ends)

    def test_parting_names_against_plain_search(self):
        source = random.Random(6)
        names = short_names(AB, 3)
        some_stores = list(stores(AB, 3, 1, range(2)))
        for _ in range(60):
            drawn = Source(source, AB, random_texts(source, AB, 2), pages=1)
            p = drawn.program(2)
            q = drawn.changed(p)
            where = [drawn.test(False) for _ in range(source.choice([0, 1]))]
            if p.pages + q.pages > 3:
                continue
            found = parting_names(p, q, where=where)
            for name in names:
                pair = least_parting(p, q, names=Names.of(AB, [name]), where=where)
                self.assertIs(name in found, pair is not None)
                if pair is not None:
                    self.assertEqual(pair[0], name)
                    self.assertTrue(are_parted(p, q, *pair, where))
                else:
                    self.assertFalse(any(are_parted(p, q, name, store, where) for store in some_stores))
            some = Names.beginning(AB, "a")
            self.assertEqual(parting_names(p, q, names=some, where=where), found & some)

    def test_few_names_and_few_stores(self):
        """[39]: what the told names and small stores tell is what is told of all."""
        source = random.Random(7)
        for _ in range(60):
            drawn = Source(source, AB, random_texts(source, AB, 1), pages=0, values=1)
            p = drawn.program(2, 0)
            q = drawn.changed(p)
            if max(len(p.bounds), len(q.bounds)) > 5:
                continue
            bounds = list(p.bounds) + list(q.bounds)
            told = told_names(AB, bounds, most=2)
            expected = not any(
                are_parted(p, q, name, store) for name in told for store in self.small_stores(p, q, bounds, name)
            )
            self.assertIs(alike(p, q), expected, (str(p), str(q)))

    def small_stores(self, p, q, bounds, name):
        lows = sorted({bound.placed(AB, name) for bound in bounds} - {None})
        made_keys = {Made(text)(name) for text in p.key_texts + q.key_texts}
        choices = []
        for low, high in zip(lows, lows[1:] + [None]):
            many = room(AB, low, high)
            most = 1 if low in made_keys else min(2, 2 if many is None else many)
            choices.append([
                list(zip([low + "a" * at for at in range(size)], values))
                for size in range(most + 1) for values in product(range(2), repeat=size)
            ])
        for rows in product(*choices):
            yield Store(AB, [pair for row in rows for pair in row])

    def test_longer_names_and_other_letters(self):
        source = random.Random(8)
        for _ in range(120):
            drawn = Source(source, SLASH, random_texts(source, SLASH, 3), pages=1)
            p = drawn.program(4, 3)
            q = drawn.changed(p)
            if p.pages + q.pages > 3:
                continue
            found = least_parting(p, q)
            if found is not None:
                self.assertTrue(are_parted(p, q, *found))
                continue
            for _ in range(40):
                name = random_text(source, SLASH, 5)
                keys = [made(name) + random_text(source, SLASH, 2) for made in drawn.mades] + [random_text(source, SLASH, 4)]
                store = Store(SLASH, [(key, source.randrange(3)) for key in keys])
                self.assertFalse(are_parted(p, q, name, store), (str(p), str(q), name, store.pairs()))

    def test_the_order_of_pairs(self):
        # By the name first, then by the number of keys, then by keys, then by values.
        self.parts("if there @\nelse\nput a 1\nend\nif there a\nput b 1\nend", "if there @\nelse\nput a 1\nend\nput b 1",
                   ("", [("", 0)]))
        self.parts("if there b\nif there a\ntell @\nend\nend\nif is ba 1\ntell b\nend", "", ("", [("ba", 1)]))
        self.parts("if is b 0\ntell b\nend\nif is a 9\ntell b\nend", "", ("", [("a", 9)]))
        self.parts("if some all\nlast all\nend", "", ("", [("", 0)]))

    def test_stores_that_are_told_have_few_keys(self):
        found = least_parting(read("page 3 c all\nif found c\nlist all after c\nend"), read("page 3 c all"))
        self.assertEqual(found_pair(found), ("", [("", 0)]))
        found = least_parting(read("page 3 c all\nif some all after c\nput a 7\nend"), read("page 3 c all"), answers=False)
        self.assertEqual(found_pair(found), ("", [("", 0), ("a", 0), ("aa", 0), ("aaa", 0)]))

    def test_mismatch(self):
        p, wide = read("tell @"), Program("abc")
        zone = Zone.everything("abc")
        for function in (alike, least_parting, parting_names):
            for work in (
                lambda: function(p, wide), lambda: function(wide, p), lambda: function(p, p, names=Names.every("abc")),
                lambda: function(p, p, where=[Some(zone)]), lambda: function(p, p, where=[Not(Some(zone))]),
                lambda: function(p, p, where=(There(Made("@")), There(Made("c")))),
                lambda: function(p, p, where=[Same(Made("@"), Made("c@"))]), lambda: function(p, p, where=[Is(Made("/"), 1)]),
            ):
                with self.assertRaises(Mismatch):
                    work()

    def test_arguments_by_name(self):
        p, q = read("put @ 1"), read("put @ 2")
        for function in (alike, least_parting, parting_names):
            by_name = function(q=q, p=p, store=True, answers=True, where=(), names=None)
            if function is least_parting:
                self.assertEqual(found_pair(by_name), found_pair(function(p, q)))
            else:
                self.assertEqual(by_name, function(p, q))
            with self.assertRaises(TypeError):
                function(p, q, None)

    def test_what_is_handed_in_stays(self):
        p, q = read("put @ 1"), read("if there @\nput @ 1\nend")
        where = [There(Made("@"))]
        names = Names.beginning(AB, "a")
        before = (str(p), str(q), names.table)
        self.assertIs(alike(p, q, where=where, names=names), True)
        found = least_parting(p, q)
        self.assertEqual(found_pair(found), ("", []))
        found[1]["a"] = 7
        self.assertEqual(found_pair(least_parting(p, q)), ("", []))
        self.assertEqual((str(p), str(q), names.table, where), (*before, [There(Made("@"))]))

    def test_limits_in_reasonable_time(self):
        source = random.Random(9)
        began = time.monotonic()
        for _ in range(150):
            drawn = Source(source, "abcd", random_texts(source, "abcd", 3), pages=1, values=3, depth=2)
            p = drawn.program(4, 3)
            if len(p) <= 12:
                q = source.choice([p, drawn.changed(p)])
                self.assertIs(alike(p, q), least_parting(p, q) is None)
        heavy = read(
            "last under @ab\nlast under a@b\nlast under ba@\nlast under @ab - key @ab\nlast not under a@b\n"
            "last not ( under @ab | under a@b | under ba@ )\nlast from @ab to end\nlast behind a@b to past ba@\n"
            "last from ba@ to past a@b\npage 1 c all", "abcd",
        )
        self.assertIs(alike(heavy, heavy), True)
        self.assertLess(time.monotonic() - began, 60)

    def test_the_same_call_again(self):
        p, q = read("take under @"), read("take from @ to from @b")
        first = found_pair(least_parting(p, q))
        alike(read("tell @"), q)
        self.assertEqual(found_pair(least_parting(p, q)), first)


if __name__ == "__main__":
    unittest.main()
