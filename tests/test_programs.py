import operator
import random
import unittest

from tests.any_values import no_strings
from tests.some_programs import Source, random_texts
from undername.bounds import Bound
from undername.errors import InvalidLetters, InvalidRow, Mismatch, NoRow
from undername.made import Made
from undername.names import Names
from undername.programs import Program
from undername.rows import (
    Copy, Fill, Found, If, Is, Keep, List, Not, Page, Put, Same, Some, Take, Tell, There,
)
from undername.runs import run
from undername.stores import Store
from undername.zones import Zone

AB = "ab"
T = Made("@a")
ALL = Zone.everything(AB)

# Its rows: 0 put, 1 if, 2 tell, 3 if, 4 keep, 5 take, 6 list, 7 copy.
TEXT = "put @ 1\nif there a@\ntell @\nif not found c\nkeep all\nelse\ntake under @\nend\nelse\nlist all\nend\ncopy ! @"


def page(count):
    return Page(ALL, count, "c")


def numbered(rows):
    """The rows with their numbers, by plain reading."""
    found = []
    for row in rows:
        found.append(row)
        if isinstance(row, If):
            found += numbered(row.rows) + numbered(row.others)
    return found


class ProgramsTest(unittest.TestCase):
    def refused(self, error, work, value=None):
        with self.assertRaises(error) as caught:
            work()
        if value is not None:
            self.assertEqual(list(vars(caught.exception).values()), [value])

    def test_letters(self):
        for value in no_strings() + ["", "a", "ba", "aa", "abcdef", "a@", Made("ab"), Names.every(AB), {}]:
            self.refused(InvalidLetters, lambda: Program(value))
            self.refused(InvalidLetters, lambda: Program(value, 7))

    def test_rows(self):
        for value in [None, 1, "", "put", {}, Store(AB), Names.every(AB), ALL, Program(AB), There(T), Tell(T), True]:
            self.refused(InvalidRow, lambda: Program(AB, value), "row")
            self.refused(InvalidRow, lambda: Program(AB, [Tell(T), value] if not isinstance(value, Tell) else value), "row")
        self.refused(InvalidRow, lambda: Program(AB, [Tell(Made("c")), [Tell(T)]]), "row")
        self.refused(InvalidRow, lambda: Program(AB, ([],)), "row")

    def test_other_letters(self):
        wide = Zone.under("abc", T)
        for row in (
            Put(Made("c"), 1), Copy(Made("c"), T), Copy(T, Made("@c")), Tell(Made("c@")), Keep(wide), Take(wide),
            Fill(wide, 1), Page(wide, 1, "c"), If(There(Made("c")), ()), If(Is(Made("c"), 1), ()),
            If(Same(Made("c"), T), ()), If(Same(T, Made("c")), ()), If(Some(wide), ()), If(Not(Not(Some(wide))), ()),
            If(Found("c"), [Tell(Made("c"))]), If(Found("c"), [], [If(Found("c"), [], [Keep(wide)])]),
            Keep(Zone.under("a-"[::-1], Made())),
        ):
            self.refused(Mismatch, lambda: Program(AB, [Tell(T), row]))
        self.assertEqual(len(Program("abc", [Put(Made("c"), 1), Keep(wide)])), 2)

    def test_attributes(self):
        rows = [Tell(T), Keep(ALL)]
        program = Program(letters=AB, rows=rows)
        rows.clear()
        self.assertEqual((program.letters, program.rows), (AB, (Tell(T), Keep(ALL))))
        self.assertIsInstance(program.rows, tuple)
        self.assertEqual(Program(AB).rows, ())

    def test_numbers(self):
        program = Program.read(AB, TEXT)
        self.assertEqual(len(program), 8)
        self.assertEqual(
            [str(program[at]).split(" ")[0] for at in range(8)],
            ["put", "if", "tell", "if", "keep", "take", "list", "copy"],
        )
        self.assertEqual(program[3], program[1].rows[1])
        for at in (-1, -8, 8, 10**20, -(10**20)):
            self.refused(NoRow, lambda: program[at], at)
        self.assertEqual(len(Program(AB)), 0)
        self.refused(NoRow, lambda: Program(AB)[0], 0)

    def test_numbers_of_random_programs(self):
        source = random.Random(1)
        for _ in range(50):
            program = Source(source, AB, random_texts(source, AB, 2)).program(4, 3)
            self.assertEqual([program[at] for at in range(len(program))], numbered(program.rows))

    def test_without(self):
        program = Program.read(AB, TEXT)
        lines = TEXT.split("\n")
        for numbers, left in (
            ((0,), lines[1:]), ((1,), [lines[0], lines[11]]), ((2,), lines[:2] + lines[3:]),
            ((3,), lines[:3] + lines[8:]), ((4,), lines[:4] + lines[5:]),
            ((5,), lines[:5] + lines[7:]), ((6,), lines[:8] + lines[10:]), ((7,), lines[:11]),
            ((7, 0, 7), lines[1:11]), ((4, 5), lines[:4] + lines[7:]), ((1, 2, 6), [lines[0], lines[11]]),
            ((0, 1, 7), []), ((2, 3, 6), lines[:2] + lines[10:]),
        ):
            with self.subTest(numbers=numbers):
                fewer = program.without(*numbers)
                self.assertEqual(str(fewer), "\n".join(left))
                self.assertEqual(fewer, Program.read(AB, "\n".join(left)))
        self.assertEqual(str(program), TEXT)

    def test_without_numbers_of_no_row(self):
        program = Program.read(AB, TEXT)
        for numbers, first in (((8,), 8), ((-1,), -1), ((0, 9, -3), 9), ((1, 2, 8), 8), ((-2, 9), -2), ((10**30, 0), 10**30)):
            self.refused(NoRow, lambda: program.without(*numbers), first)
        self.refused(NoRow, lambda: Program(AB).without(at=0), 0)

    def test_joined(self):
        one, other = Program.read(AB, "put @ 1\nif there @\nend"), Program.read(AB, "tell @")
        both = one + other
        self.assertEqual((str(both), len(both)), ("put @ 1\nif there @\nend\ntell @", 3))
        kept = one
        one += other
        self.assertEqual((one, str(kept)), (both, "put @ 1\nif there @\nend"))
        self.assertIsNot(one, kept)
        self.assertEqual(other + Program(AB), other)
        self.refused(Mismatch, lambda: other + Program("abc"))
        for value in ("tell @", None, (), [Tell(T)], Tell(T)):
            self.refused(TypeError, lambda: other + value)

    def test_equality(self):
        program = Program.read(AB, TEXT)
        self.assertEqual(program, Program.read(AB, TEXT))
        self.assertNotEqual(program, Program.read("abc", TEXT))
        self.assertNotEqual(program, program.without(0))
        self.assertNotEqual(Program(AB), Program("abc"))
        for value in (TEXT, None, program.rows, (), 0, Tell(T)):
            self.assertFalse(program == value)

    def test_not_iterable(self):
        program = Program.read(AB, TEXT)
        for work in (iter, list, lambda value: [*value], lambda value: Tell(T) in value):
            self.refused(TypeError, lambda: work(program))

    def test_texts(self):
        self.assertEqual(str(Program(AB)), "")
        self.assertEqual(str(Program(AB, [Tell(T), If(Found("c"), [page(1)])])), "tell @a\nif found c\npage 1 c all\nend")

    def test_pages(self):
        for rows, pages in (
            ([], 0), ([Tell(T), List(ALL)], 0), ([page(2), page(3)], 5), ([If(Found("c"), [page(2)])], 2),
            ([If(Found("c"), [page(2)], [page(3)])], 3), ([If(Found("c"), [page(2), page(2)], [page(3)]), page(1)], 5),
            ([If(Found("c"), [If(Found("c"), [page(1)], [page(2)]), page(1)], [page(1)])], 3),
            ([If(Found("c"), [], [page(1), If(Found("c"), [page(3)])]), page(3)], 7),
        ):
            self.assertEqual(Program(AB, rows).pages, pages)

    def test_key_texts(self):
        program = Program.read(
            AB, "put @b 1\ncopy b@ !\ntell @b\nif same @@ a\nend\nif not is ab 1\nif not not there bb\nelse\ntell ba\nend\nend"
        )
        self.assertEqual(program.key_texts, ("", "@@", "@b", "a", "ab", "b@", "ba", "bb"))
        self.assertEqual(Program.read(AB, "keep under @\nif some key a\nend").key_texts, ())
        self.assertEqual(Program.read("-/", "tell @\ntell -\ntell /").key_texts, ("-", "/", "@"))

    def test_bounds(self):
        self.assertEqual([str(bound) for bound in Program(AB).bounds], ["end", "from !"])
        program = Program.read(AB, "put @b 1\nlist from @b to past @\nif not some not key ! - all\nend\ncopy @b ab")
        self.assertEqual(
            [str(bound) for bound in program.bounds],
            ["behind !", "behind @b", "behind ab", "end", "from !", "from @b", "from ab", "past @"],
        )
        self.assertIsInstance(program.bounds, tuple)
        self.assertTrue(all(isinstance(bound, Bound) for bound in program.bounds))
        inner = Program.read(AB, "if found c\nelse\nif found c\ntake behind a to end\nend\nend")
        self.assertEqual([str(bound) for bound in inner.bounds], ["behind a", "end", "from !"])

    def test_called(self):
        program = Program.read(AB, TEXT)
        store = Store(AB, [("a", 5)])
        self.assertEqual(program("a", store), run(program, "a", store))
        self.assertEqual(program(store=store, name="b"), run(program, "b", store))

    def test_in_place_operators_give_new_objects(self):
        program = Program.read(AB, TEXT)
        self.assertEqual(operator.iadd(program, Program(AB)), program)
        self.assertEqual(str(program), TEXT)


if __name__ == "__main__":
    unittest.main()
