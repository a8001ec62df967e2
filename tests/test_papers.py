import random
import time
import unittest

from tests.any_values import nested, no_strings
from tests.plain_papers import inner_trees, plainly_holds, tree_at, with_tree
from tests.some_programs import Source, random_texts
from undername.alike import alike
from undername.errors import Mismatch
from undername.made import Made
from undername.names import Names
from undername.orders import classes, told_names
from undername.papers import paper, paper_holds
from undername.programs import Program
from undername.rows import Is, Not, Same, Some, There
from undername.zones import Zone

AB = "ab"
EMPTY = Names.of(AB, [""])


def read(text, letters=AB):
    return Program.read(letters, text)


def there(key, yes=(), no=()):
    return ("there", key, yes, no)


class PapersTest(unittest.TestCase):
    def holds(self, expected, one, other, tree, **how):
        """Check a tree about the empty name, for two programs."""
        p, q = read(one), read(other)
        how = {"names": EMPTY, **how}
        with self.subTest(one=one, other=other, tree=tree):
            self.assertIs(paper_holds(p, q, (tree,), **how), expected)
            self.assertIs(paper_holds(q, p, (tree,), **how), expected)
            self.assertIs(plainly_holds(p, q, (tree,), **how), expected)

    def test_papers_of_alike_programs_hold(self):
        for one, other in (
            ("", ""), ("put @ 1", "put @ 2\nput @ 1"), ("tell @", "tell @"), ("take all", "keep key !\ntake key !"),
            ("if there @\ntell @\nelse\ntell @\nend", "tell @"), ("copy @ a@", "if there a@\ncopy @ a@\nend"),
            ("if same @ a@\ncopy @ a@\nend", ""), ("if is @ 3\nput @ 3\nend", ""), ("fill 1 key @", "if there @\nput @ 1\nend"),
            ("page 1 c under @\nlist all after c", "page 1 d under @\nlist all after d"), ("last all", "last all"),
            ("if some under @a\nput b 1\nend", "if not some under @a\nelse\nput b 1\nend"),
        ):
            p, q = read(one), read(other)
            found = paper(p, q)
            self.assertIsInstance(found, tuple)
            self.assertEqual(len(found), len(told_names(AB, [*p.bounds, *q.bounds], most=p.pages + q.pages + 2)))
            for work in (paper_holds, plainly_holds):
                self.assertIs(work(p, q, found), True)
                self.assertIs(work(q, p, found), True)

    def test_programs_that_part_have_no_paper(self):
        for one, other in (
            ("tell @", ""), ("put @ 1", "put @ 2"), ("take under @", "take from @ to from @b"), ("count all", "count not key @"),
            ("fill 0 all", ""), ("copy a b", ""), ("put @a 1\nput a@ 2", "put a@ 2\nput @a 1"), ("list all", "page 3 c all"),
            ("list key @a", "list key a@"),
        ):
            p, q = read(one), read(other)
            self.assertIsNone(paper(p, q))
            many = len(told_names(AB, [*p.bounds, *q.bounds], most=p.pages + q.pages + 2))
            for tree in ((), there(0), there(0, there(1), there(1))):
                self.assertIs(paper_holds(p, q, (tree,) * many), False)

    def test_one_tree_for_each_told_name(self):
        p = read("put @ 1")
        self.assertIs(paper_holds(p, p, ((), (), ())), True)
        for some in ((), ((),), ((), ()), ((), (), (), ()), [(), (), ()], ((), [], ())):
            self.assertIs(paper_holds(p, p, some), False)
        # The told names are the empty one, a and b.
        for names, many in (
            (Names.none(AB), 0), (EMPTY, 1), (Names.of(AB, ["bab"]), 1), (Names.of(AB, ["", "bab", "bbb"]), 2), (Names.every(AB), 3),
        ):
            for given in range(5):
                self.assertIs(paper_holds(p, p, ((),) * given, names=names), given == many)
            self.assertEqual(len(paper(p, p, names=names)), many)

    def test_trees_are_about_the_told_names(self):
        p = read("tell @\ntell a@")
        told = classes(AB, p.bounds, most=2)
        for name, some in told:
            # Only one name is meant, which is no told one.
            names = Names.of(AB, [some[1]]) if some.size is None else some
            found = paper(p, p, names=names)
            self.assertEqual(len(found), 1)
            self.assertIs(plainly_holds(p, p, found, names=names), True)
            self.assertEqual(found, paper(p, p, names=Names.of(AB, [name])))

    def test_what_is_no_paper(self):
        p = read("put @ 1")
        for value in no_strings() + ["", "()", "there", nested((), 60), nested(("there", 0, (), ()), 30), {}]:
            if value != ((), (), ()):
                self.assertIs(paper_holds(p, p, value), False)
            if value != ():
                self.assertIs(paper_holds(p, p, (value, (), ())), False)
                self.assertIs(paper_holds(p, p, ((), ("there", 0, (), value), ())), False)
                self.assertIs(paper_holds(p, p, ((), (), ("there", 0, value, ()))), False)

    def test_a_needless_question_keeps_a_paper_right(self):
        self.holds(True, "put @ 1", "put @ 1", there(0))
        self.holds(True, "put @ 1\ntell a", "put @ 1\ntell a", there(1, there(0, (), ()), ()))
        self.holds(True, "put @ 1", "put @ 1", ("many", 0, (), (), ()))
        self.holds(True, "put @ 1", "put @ 1", there(0, ("is", 0, 5, (), ()), ()))

    def test_wrong_trees(self):
        for tree in (
            ("there",), ("there", 0), ("there", 0, ()), ("there", 0, (), (), ()), ("there", 1, (), ()), ("there", -1, (), ()),
            ("there", False, (), ()), ("there", "0", (), ()), ("There", 0, (), ()), (None, 0, (), ()), (("there",), 0, (), ()),
            ["there", 0, (), ()], ("there", 0, [], ()), ("there", 0, (), None), ("there", None, (), ()), ("", 0, (), ()),
            ("many",), ("many", 0), ("many", 0, (), ()), ("many", 0, (), (), (), ()), ("many", 1, (), (), ()),
            ("many", -1, (), (), ()), ("many", False, (), (), ()), ("many", 0, (), (), None), ("many", (), (), (), ()),
            ("is", 0, 1, (), ()), ("same", 0, 0, (), ()), ("same", 0, 1, (), ()), (0, 0, (), ()), ((), (), (), ()),
        ):
            self.holds(False, "put @ 1", "put @ 1", tree)
        for word in ("", "some", "SAME", "is ", None, 0, ()):
            for rest in ((0, 1, (), ()), (0, (), ()), (0, (), (), ())):
                self.holds(False, "put @ 1\nput a 1", "put @ 1\nput a 1", there(0, there(1, (word, *rest))))

    def test_nothing_is_asked_twice(self):
        for tree in (
            there(0, there(0)), there(0, (), there(0)), there(0, there(1, (), there(0))),
            ("many", 0, (), ("many", 0, (), (), ()), ()), ("many", 0, there(0, ("many", 0, (), (), ())), (), ()),
            there(0, ("is", 0, 1, ("is", 0, 1, (), ()), ())), there(0, ("is", 0, 1, (), ("is", 0, 1, (), ()))),
            there(0, there(1, ("same", 0, 1, (), ("same", 0, 1, (), ())))),
        ):
            self.holds(False, "put @ 1\nput a 1", "put @ 1\nput a 1", tree)

    def test_answers_that_follow(self):
        # The made keys are the empty one, a and b.
        text = "put @ 1\nput a 1\nput b 1"
        for tree, expected in (
            (("is", 0, 1, ("is", 0, 2, (), ()), ()), False), (("is", 0, 1, (), ("is", 0, 2, (), ())), True),
            (("same", 0, 1, ("same", 1, 2, ("same", 0, 2, (), ()), ()), ()), False),
            (("same", 0, 1, (), ("same", 1, 2, (), ("same", 0, 2, (), ()))), True),
            (("same", 0, 1, (), ("same", 1, 2, ("same", 0, 2, (), ()), ())), False),
            (("same", 0, 1, ("is", 0, 5, ("is", 1, 5, (), ()), ()), ()), False),
            (("same", 0, 1, ("is", 0, 5, (), ("is", 1, 5, (), ())), ()), False),
            (("same", 0, 1, (), ("is", 0, 5, ("is", 1, 5, (), ()), ())), False),
            (("same", 0, 1, (), ("is", 0, 5, (), ("is", 1, 5, (), ()))), True),
            (("same", 0, 1, (), ("is", 0, 5, ("is", 1, 6, (), ()), ())), True),
            (("is", 0, 5, ("is", 1, 5, ("same", 0, 1, (), ()), ()), ()), False),
            (("is", 0, 5, ("is", 1, 6, ("same", 0, 1, (), ()), ()), ()), False),
            (("is", 0, 5, ("is", 1, 5, (), ("same", 0, 1, (), ())), ()), False),
            (("is", 0, 5, (), ("is", 1, 5, ("same", 0, 1, (), ()), ())), False),
            (("is", 0, 5, (), ("is", 1, 5, (), ("same", 0, 1, (), ()))), True),
            (("same", 0, 2, ("is", 2, 0, ("same", 0, 1, ("is", 1, 0, (), ()), ()), ()), ()), False),
        ):
            self.holds(expected, text, text, there(0, there(1, there(2, tree))))

    def test_values_are_asked_of_keys_that_are_there(self):
        text = "put @ 1\nput a 1"
        for tree, expected in (
            (there(0, ("is", 0, 0, (), ())), True), (there(0, (), ("is", 0, 0, (), ())), False),
            (there(1, ("is", 0, 0, (), ())), False), (("is", 0, 0, (), ()), False),
            (there(0, there(1, ("same", 0, 1, (), ()))), True), (there(0, there(1, ("same", 1, 0, (), ()))), False),
            (there(0, there(1, ("same", 1, 1, (), ()))), False), (there(0, ("same", 0, 1, (), ())), False),
            (there(0, there(1, (), ("same", 0, 1, (), ()))), False), (there(1, ("same", 0, 1, (), ())), False),
            (there(0, there(1, ("same", 0, 2, (), ()))), False), (there(0, there(1, ("same", False, 1, (), ()))), False),
            (there(0, ("is", 0, 10**18 - 1, (), ())), True), (there(0, ("is", 0, 10**18, (), ())), False),
            (there(0, ("is", 0, -1, (), ())), False), (there(0, ("is", 0, True, (), ())), False),
            (there(0, ("is", 0, "1", (), ())), False), (there(0, ("is", 0, None, (), ())), False),
            (there(0, ("is", 0, 0, ())), False), (there(0, ("is", 0, 0, (), (), ())), False),
            (there(0, there(1, ("same", 0, 1, ()))), False), (there(0, there(1, ("same", 0, 1, (), (), ()))), False),
        ):
            self.holds(expected, text, text, tree)

    def test_sizes(self):
        # For the empty name: the made keys are the empty one and ab, the gaps a, aa.., and all behind ab.
        text = "put @ 1\nput @ab 1\nlist key a"
        for number, sizes in ((0, 2), (1, 3), (2, 3)):
            for given in range(6):
                self.holds(given == sizes, text, text, ("many", number, *[()] * given))
        self.holds(False, text, text, ("many", 3, (), (), ()))

    def test_sizes_with_pages(self):
        p = read("page 1 c all")
        for given in range(9):
            self.assertIs(paper_holds(p, p, (("many", 0, *[()] * given),)), given == 5)
        q = read("page 2 c all")
        self.assertIs(paper_holds(q, q, (("many", 0, *[()] * 7),)), True)
        self.assertIs(paper_holds(q, q, ((),)), False)

    def test_what_rows_ask(self):
        for text in ("tell @", "if there @\nend", "copy a @", "copy @ @"):
            self.holds(False, text, text, ())
            self.holds(True, text, text, there(0))
        for text in ("put @ 1", "copy @ a\nput @ 3", "take under @", "keep key @", "fill 3 all", "list all", "count all", "list key @\nput a 1"):
            tree = there(1) if text.startswith("copy") else ()
            self.holds(True, text, text, tree)
        is_text = "if is @ 5\nend"
        self.holds(False, is_text, is_text, there(0))
        self.holds(True, is_text, is_text, there(0, ("is", 0, 5, (), ())))
        self.holds(False, is_text, is_text, there(0, ("is", 0, 4, (), ())))
        self.holds(True, is_text, is_text, there(0, ("is", 0, 4, (), ("is", 0, 5, (), ()))))
        same_text = "if same @ a\nend"
        self.holds(False, same_text, same_text, there(0))
        self.holds(False, same_text, same_text, there(1, there(0), ()))
        self.holds(False, same_text, same_text, there(0, there(1)))
        self.holds(True, same_text, same_text, there(0, there(1, ("same", 0, 1, (), ()))))
        self.holds(True, same_text, same_text, there(0, there(1, ("is", 0, 7, ("is", 1, 7, (), ()), ("same", 0, 1, (), ())))))
        self.holds(True, "if same @ @\nend", "", there(0))

    def test_rows_ahead_of_a_question(self):
        for text in (
            "put @ 1\ntell @", "take under @\ntell @", "keep key a\nif there @\nend", "put @ 1\nif is @ 2\nend",
            "put @ 1\nput a 1\nif same @ a\nend", "put @ 1\ncopy a @", "take key @\ncopy a @", "take all\nif some all\nend",
            "take all\nlast all", "take all\npage 3 c all", "put @ 1\nif some all\nend", "put @ 1\npage 1 c all",
        ):
            self.holds(True, text, text, ())
        # Behind a fill it is still asked whether the key is there, but not for its value.
        self.holds(False, "fill 3 all\ntell @", "fill 3 all\ntell @", ())
        self.holds(True, "fill 3 all\nif is @ 3\nend", "fill 3 all\nif is @ 3\nend", there(0))
        self.holds(True, "fill 3 all\ntell @", "fill 3 all\nif there @\ntell @\nelse\ntell @\nend", there(0))
        # A value that was copied is asked of where it came from.
        self.holds(True, "copy @ a\nif is @ 3\nend", "copy @ a\nif is @ 3\nend",
                   there(1, ("is", 1, 3, (), ()), there(0, ("is", 0, 3, (), ()), ())))
        self.holds(False, "copy @ a\nif is @ 3\nend", "copy @ a\nif is @ 3\nend",
                   there(1, there(0, ("is", 0, 3, (), ()), ()), there(0, ("is", 0, 3, (), ()), ())))

    def test_pages_last_and_some(self):
        # For the empty name: the made keys are the empty one and a, the gap is what is behind a.
        some = "if some all\nend\nput @ 1\nput a 1"
        self.holds(True, some, some, there(0, (), there(1, (), ("many", 0, (), (), ()))))
        self.holds(False, some, some, there(1, (), there(0, (), ("many", 0, (), (), ()))))
        self.holds(False, some, some, there(0, (), there(1)))
        last = "last all\nput @ 1\nput a 1"
        self.holds(True, last, last, ("many", 0, there(1, (), there(0)), (), ()))
        self.holds(False, last, last, ("many", 0, there(0, (), there(1)), (), ()))
        self.holds(True, last, last, ("many", 0, there(0, there(1), there(1)), (), ()))
        some = "if some under a\nend\nput @ 1\nput a 1"
        self.holds(True, some, some, there(1, (), ("many", 0, (), (), ())))
        self.holds(True, "last key a\nput @ 1", "last key a & under a\nput @ 1", ("many", 0, (), ()))

    def test_pages_go_on_until_there_are_enough(self):
        p = read("page 2 c all\nput @ 1\nput a 1")
        many = ("many", 0, *[()] * 7)
        for tree, expected in (
            (there(0, there(1, (), many), there(1, many, many)), True), (there(0, there(1, (), many), there(1, (), many)), False),
            (there(0, (), there(1, many, many)), False), (there(0, there(1, many, many), there(1, many, many)), True),
        ):
            self.assertIs(paper_holds(p, p, (tree,), names=EMPTY), expected)
            self.assertIs(plainly_holds(p, p, (tree,), names=EMPTY), expected)
        behind = read("page 1 c all\npage 1 d all after c")
        tree = ("many", 0, *[()] * 7)
        self.assertIs(paper_holds(behind, read("page 1 c all\npage 1 d all after c\ncount key a & key b"), (tree,)), False)
        self.assertIs(paper_holds(behind, behind, (tree,)), True)
        nothing = read("page 1 c all after d\nif some all after d\nend\nlast all after d")
        self.assertIs(paper_holds(nothing, nothing, ((),)), True)

    def test_answers_to_lists_and_counts(self):
        self.holds(True, "list all\nput @ 1", "list all\nput @ 1", ())
        self.holds(False, "list all\nput @ 1", "list all - key @\nput @ 1", ())
        self.holds(False, "list all\nput @ 1", "list all - key @\nput @ 1", there(0))
        self.holds(True, "if there @\nelse\nlist all\nend", "if there @\nelse\nlist all - key @\nend", there(0))
        self.holds(False, "count key @\nput a 1", "count key a\nput a 1", there(0, there(1), ()))
        # A number of keys counts, not which ones they are.
        self.holds(True, "put @ 1\ncount key @\nput a 1", "put @ 1\ncount key a | key @ - key a\nput a 1", ())
        self.holds(True, "put @ 1\nput a 1\ncount key @", "put @ 1\nput a 1\ncount key a", ())
        self.holds(False, "put @ 1\nput a 1\nlist key @", "put @ 1\nput a 1\nlist key a", ())
        # Counts do not tell values, lists do.
        self.holds(True, "count all\nfill 1 all", "fill 1 all\ncount all", ())
        self.holds(False, "list all\nfill 1 all", "fill 1 all\nlist all", ())
        self.holds(True, "take all\nlist all", "list key a - all\ntake all", ())

    def test_states(self):
        self.holds(True, "fill 1 all", "fill 2 all\nfill 1 all", ())
        self.holds(False, "fill 1 all", "fill 2 all", ())
        self.holds(False, "fill 1 key @", "", ())
        self.holds(True, "fill 1 key @\nput @ 2", "put @ 2", ())
        self.holds(False, "fill 1 key @", "if there @\nput @ 1\nend", ())
        self.holds(True, "fill 1 key @", "if there @\nput @ 1\nend", there(0))
        self.holds(True, "if is @ 1\nput @ 1\nend", "", there(0, ("is", 0, 1, (), ())))
        self.holds(True, "if same @ a\ncopy @ a\nend", "", there(0, there(1, ("same", 0, 1, (), ()))))
        self.holds(True, "if there a\ncopy @ a\ncopy a @\nend", "copy @ a", there(1))
        self.holds(False, "if there a\ncopy @ a\nend", "if there a\ncopy @ a\ncopy a b\nend", there(1))
        self.holds(True, "take key @", "if there @\ntake key @\nend", there(0))

    def test_made_keys_and_gaps_that_are_taken(self):
        p, q = read("take from @ to end\nput ! 1\nput a 1\ntake all"), read("take all")
        found = paper(p, q)
        self.assertIs(paper_holds(p, q, found), True)
        self.assertEqual(found, ((),) * len(found))

    def test_where(self):
        here = There(Made("@"))
        self.holds(True, "put @ 1", "", there(0, ("is", 0, 1, (), ()), ()), where=[Is(Made("@"), 1)])
        self.holds(False, "put @ 1", "", there(0, ("is", 0, 1, (), ()), ()), where=[here])
        self.holds(True, "tell @\nput @ 1", "tell @\nput @ 1", there(0), where=[here])
        self.holds(True, "tell @", "", there(0), where=[here, Not(here)])
        self.holds(False, "tell @", "", there(0), where=[here])
        # Only what is told decides, and one test that does not hold is enough.
        self.holds(False, "tell @", "", (), where=[here, Not(here)])
        self.holds(True, "put @ 1", "put @ 1", (), where=[here])
        self.holds(True, "tell a", "", there(0), where=[Same(Made("@"), Made("a")), Not(here)])
        self.holds(False, "tell a", "", there(0), where=[Same(Made("@"), Made("a"))])
        self.holds(True, "tell b", "", there(0, there(1, there(2, ("same", 0, 1, (), ()), ("same", 0, 1, (), ()))), ()),
                   where=[Same(Made("@"), Made("a")), Not(Same(Made("a"), Made("@")))])
        zone = Zone.read(AB, "all")
        self.holds(True, "tell @", "", there(0, (), ("many", 0, (), (), ())), where=[Not(Some(zone)), Some(zone)])
        # Keys and bounds of tests count.
        self.holds(True, "", "", there(0, there(1)), where=[There(Made("a")), here])
        self.holds(False, "", "", there(0, there(1)), where=[here])
        for where in ([Is(Made("@"), 1)], [Not(Some(zone))], [here, Same(Made("@"), Made("a@"))]):
            p, q = read("if is @ 1\nput @ 1\nend\ntell @"), read("tell @")
            found = paper(p, q, where=where)
            self.assertIs(paper_holds(p, q, found, where=where), True)
            self.assertIs(plainly_holds(p, q, found, where=where), True)

    def test_answers_or_stores_alone(self):
        self.holds(False, "put @ 1", "", ())
        self.holds(True, "put @ 1", "", (), store=False)
        self.holds(False, "list all", "", ())
        self.holds(True, "list all", "", (), answers=False)
        self.holds(True, "put @ 1", "list all", (), answers=False, store=False)
        # What is asked has to be told all the same.
        self.holds(False, "tell @", "", (), answers=False, store=False)
        self.holds(True, "tell @", "", there(0), answers=False, store=False)
        p, q = read("put @a 1\ntell a@"), read("tell a@\nput @a 1")
        self.assertIsNone(paper(p, q))
        self.assertIsNone(paper(p, q, store=False))
        found = paper(p, q, answers=False)
        self.assertIs(paper_holds(p, q, found, answers=False), True)
        self.assertIs(paper_holds(p, q, found), False)

    def test_against_plain_reading(self):
        source = random.Random(10)
        right = 0
        for _ in range(120):
            drawn = Source(source, AB, random_texts(source, AB, source.randint(1, 2)), pages=source.choice([0, 0, 1]))
            p = drawn.program(source.randint(1, 4))
            q = drawn.changed(p)
            how = {
                "where": [drawn.test(False) for _ in range(source.choice([0, 0, 1]))],
                "names": source.choice([None, None, Names.beginning(AB, "a"), Names.of(AB, ["b", "ba"])]),
                **source.choice([{}, {}, {"answers": False}, {"store": False}]),
            }
            if p.pages + q.pages > 2:
                continue
            found = paper(p, q, **how)
            self.assertIs(found is not None, alike(p, q, **how))
            if found is None:
                found = paper(p, p, **how)
            if len(str(found)) > 8000:
                continue
            for some in [found, tuple(() for _ in found), *[self.spoilt(source, found) for _ in range(8) if found]]:
                expected = plainly_holds(p, q, some, **how)
                self.assertIs(paper_holds(p, q, some, **how), expected, (str(p), str(q), how, some))
                right += expected
        self.assertGreater(right, 50)

    def spoilt(self, source, found):
        at = source.randrange(len(found))
        path = source.choice(inner_trees(found[at]))
        old = tree_at(found[at], path)
        other = source.choice([
            (), old[:-1], old + ((),), ("there", source.randint(0, 2), old, old), ("many", source.randint(0, 3), old, old, old),
            ("is", 0, source.randint(0, 1), old, old), ("same", 0, 1, old, old), ("same", 1, 0, old, old), None, list(old), (old,),
            tree_at(old, source.choice(inner_trees(old))), old[:2] + old[2:][::-1], (*old[:1], 1, *old[2:]),
        ])
        return found[:at] + (with_tree(found[at], path, other),) + found[at + 1:]

    def test_other_trees_of_right_papers(self):
        p = read("page 1 c under @\nif same @ a@\ntell @\nend")
        found = paper(p, p)
        for at, tree in enumerate(found):
            self.assertIs(paper_holds(p, p, found[:at] + found[at + 1:]), False)
            self.assertIs(paper_holds(p, p, found[:at] + ((),) + found[at + 1:]), False)
            self.assertIs(paper_holds(p, p, found[:at] + (list(tree),) + found[at + 1:]), False)
        self.assertIs(paper_holds(p, p, found + ((),)), False)
        self.assertIs(paper_holds(p, p, list(found)), False)
        self.assertIs(paper_holds(p, p, found), True)

    def test_mismatch(self):
        p, wide = read("tell @"), Program("abc")
        for function in (paper, lambda p, q, **how: paper_holds(p, q, None, **how)):
            for work in (
                lambda: function(p, wide), lambda: function(wide, p), lambda: function(p, p, names=Names.every("abc")),
                lambda: function(p, p, where=[There(Made("c"))]), lambda: function(p, p, where=[Not(Some(Zone.everything("abc")))]),
            ):
                with self.assertRaises(Mismatch):
                    work()

    def test_arguments_by_name(self):
        p = read("tell @")
        found = paper(q=p, p=p, where=(), names=None, store=True, answers=True)
        self.assertEqual(found, paper(p, p))
        self.assertIs(paper_holds(paper=found, q=p, p=p, where=(), names=None, store=True, answers=True), True)
        for work in (lambda: paper(p, p, None), lambda: paper_holds(p, p, found, None)):
            with self.assertRaises(TypeError):
                work()

    def test_the_same_call_again(self):
        p, q = read("if there @\ntell @\nelse\ntell @\nend"), read("tell @")
        first = paper(p, q)
        paper(q, q)
        self.assertEqual(paper(p, q), first)
        self.assertEqual((str(p), str(q)), ("if there @\ntell @\nelse\ntell @\nend", "tell @"))

    def test_limits_in_reasonable_time(self):
        began = time.monotonic()
        for text in (
            "last under a@\nlast under @b\nlast under @\nlast all\npage 1 c all\nlast all after c",
            "page 1 c all\nif some under @a - key @a\npage 1 c under a@ after c\nend\nif some under a@ - key a@\nlast under @a after c\nend",
        ):
            p = read(text)
            self.assertIs(paper_holds(p, p, paper(p, p)), True)
        self.assertLess(time.monotonic() - began, 30)


if __name__ == "__main__":
    unittest.main()
