import random
import unittest

from tests.some_programs import Source, random_texts
from undername.errors import InvalidProgram, InvalidZone
from undername.programs import Program
from undername.rows import (
    Count, Fill, Found, If, Is, Keep, Last, List, Not, Page, Put, Some, Take, Tell, There,
)
from undername.made import Made
from undername.zones import Zone

AB = "ab"
# With these letters made texts may be called like words of texts.
WORDS = "aefrt"
ALL = Zone.everything(AB)
T = Made("@")

GOOD_LINES = [
    "put @ 0", "put ! 1", "put a@b 999999999999999999", "copy a b", "copy @ @", "take all", "take key ! after to",
    "keep not all", "keep all - ( under @ | key a ) & all", "fill 0 all", "fill 10 from ! to end after not", "tell !",
    "tell @@@@", "list past @ to behind a", "list all after all", "count all", "last under @ after zzzz",
    "page 1 c all", "page 3 to under @ after to", "page 2 all all after all",
]
GOOD_TESTS = [
    "there !", "is @ 0", "is ! 10", "same a @", "same @ @", "some all", "some not all after c", "found c", "found to",
    "not there @", "not not some not all", "not found not",
]
# Lines and tests that are wrong, but for a text of a zone.
BAD_LINES = [
    "", " ", "put", "put @", "put @ ", "put @ x", "put @ 01", "put @ 00", "put @ -1", "put @ +1", "put @ 1 ", "put @  1",
    "put c 1", "put @ 1 2", "put  1", "put @ 1000000000000000000", "put @! 1", "put !! 1", "Put @ 1", " put @ 1",
    "copy", "copy a", "copy a ", "copy a c", "copy c a", "copy a b a", "tell", "tell ", "tell c", "tell @ @", "tell !a",
    "fill", "fill 1x all", "fill all", "fill 01 all", "fill -1 all", "fill  all", "page all", "page 0 c all",
    "page 4 c all", "page 11 c all", "page 01 c all", "page c 1 all", "page 1 C all", "page 1 abcde all",
    "page 1 c1 all", "page 1  all", "page  c all", "found c", "there @", "not there @", "some all", "is @ 1",
    "else ", " else", "else if there @", "end ", "end end", "endif", "if", "if ", "elseif", "!", "@", "all",
    "put @\t1", "keepall", "listall",
]
BAD_TESTS = [
    "", "there", "there ", "there c", "there @ @", "is @", "is @ ", "is @ 01", "is c 1", "is 1", "is @ x", "is @ 1 1",
    "same @", "same @ ", "same c a", "same a c", "same a b a", "found", "found ", "found C", "found abcde", "found c c",
    "not", "not ", "not not", "not  there @", "tell @", "if there @", " there @", "There @", "notthere @", "all",
]
# Lines with a wrong text of a zone, and the number of the word in it that is wrong.
BAD_ZONES = [
    ("take ", 0), ("take under", 1), ("take under c", 1), ("take all all", 1), ("take  all", 0), ("take all ", 1),
    ("take all & ", 2), ("take ( all", 2), ("take from @ to", 3), ("take from @ a", 2), ("take from", 1),
    ("take all after", 1), ("take all after C", 1), ("take all after abcde", 1), ("take all after c d", 1),
    ("take all )", 1), ("take x", 0), ("take under x after c", 1), ("take all & after c", 2),
    ("keep all after c", 1), ("keep not", 1), ("fill 1 al", 0), ("fill 1 under c", 1), ("list not not", 2),
    ("count key", 1), ("last key ! -", 3), ("page 1 c under", 1), ("page 1 c all |", 2), ("page 3 c x after c", 0),
    ("if some under", 1), ("if not some all after c1", 1), ("if some key c", 1), ("if not not some not", 1),
]


class ProgramTextsTest(unittest.TestCase):
    def refused(self, at, text, letters=AB):
        with self.subTest(text=text):
            with self.assertRaises(InvalidProgram) as caught:
                Program.read(letters, text)
            self.assertEqual(caught.exception.at, at)
            return caught.exception.__cause__

    def test_lines(self):
        for line in GOOD_LINES:
            with self.subTest(line=line):
                program = Program.read(AB, line)
                self.assertEqual((str(program), len(program)), (line, 1))

    def test_tests(self):
        for test in GOOD_TESTS:
            with self.subTest(test=test):
                text = f"if {test}\ntell @\nend"
                self.assertEqual(str(Program.read(AB, text)), text)

    def test_what_is_read(self):
        text = "\n".join([
            "put @ 7", "take all after to", "keep all", "fill 3 all", "list all", "count all", "last all",
            "page 2 not all after not", "if not is @ 4", "tell @", "else", "if found c", "end", "if some all after c", "end",
            "end",
        ])
        rows = [
            Put(T, 7), Take(ALL, "to"), Keep(ALL), Fill(ALL, 3), List(ALL), Count(ALL), Last(ALL), Page(ALL, 2, "not", "not"),
            If(Not(Is(T, 4)), [Tell(T)], [If(Found("c"), []), If(Some(ALL, "c"), [])]),
        ]
        program = Program.read(letters=AB, text=text)
        self.assertEqual(program.rows, tuple(rows))
        self.assertEqual(program, Program(AB, rows))
        self.assertEqual(str(program), text)

    def test_the_empty_text(self):
        self.assertEqual(Program.read(AB, ""), Program(AB))
        self.assertEqual(Program.read(AB, "").rows, ())

    def test_what_is_read_but_not_written(self):
        for text, written in (
            ("if there @\nelse\nend", "if there @\nend"),
            ("if there @\ntell @\nelse\nend", "if there @\ntell @\nend"),
            ("keep ( ( all ) )", "keep all"),
            ("list ( under @ ) | ( key ! & all ) after c", "list under @ | ( key ! & all ) after c"),
            ("list ( under @ | key ! ) & all", "list under @ | key ! & all"),
        ):
            program = Program.read(AB, text)
            self.assertEqual(str(program), written)
            self.assertEqual(Program.read(AB, written), program)

    def test_texts_lead_to_programs_and_back(self):
        source = random.Random(2)
        for _ in range(300):
            letters = source.choice([AB, "-/0a"])
            program = Source(source, letters, random_texts(source, letters, 3), values=12, depth=3).program(5, 3)
            self.assertEqual(Program.read(letters, str(program)), program)
            self.assertEqual(Program.read(letters, str(program)).rows, program.rows)

    def test_words_by_their_places(self):
        under = Zone.under(WORDS, Made("after"))
        for text, rows in (
            ("list under after", [List(under)]), ("list under after after fate", [List(under, "fate")]),
            ("list key after | under after after fate", [List(Zone.only(WORDS, Made("after")) | under, "fate")]),
            ("keep ( under after )", [Keep(under)]), ("tell after", [Tell(Made("after"))]),
            ("put after 1", [Put(Made("after"), 1)]), ("if there after\nend", [If(There(Made("after")), ())]),
            ("count from after to from tea after to", [Count(Zone.read(WORDS, "from after to from tea"), "to")]),
        ):
            self.assertEqual(Program.read(WORDS, text).rows, tuple(rows))
            self.assertEqual(Program.read(WORDS, str(Program(WORDS, rows))), Program(WORDS, rows))
        self.assertEqual(str(Program.read("els", "tell else\nif there se\nelse\ntell else\nend")[2]), "tell else")
        self.assertEqual(str(Program.read("denot", "tell end\nif is not 3\ntell end\nend")[1].test), "is not 3")

    def test_wrong_lines(self):
        for line in BAD_LINES:
            if line:
                self.assertIsNone(self.refused(0, line))
            self.assertIsNone(self.refused(1, f"tell @\n{line}\ntell c"))
            self.assertIsNone(self.refused(2, f"if there @\ntell @\n{line}\nelse\nelse"))

    def test_wrong_tests(self):
        for test in BAD_TESTS:
            self.assertIsNone(self.refused(0, f"if {test}\nend"))
            self.assertIsNone(self.refused(1, f"tell @\nif {test}"))

    def test_wrong_zones(self):
        for line, word in BAD_ZONES:
            cause = self.refused(1, f"tell @\n{line}\ntell c")
            self.assertIsInstance(cause, InvalidZone, line)
            self.assertEqual(cause.at, word, line)

    def test_zones_that_are_not_there(self):
        for line in ("take", "keep", "list", "count", "last", "fill 1", "page 1 c", "if some"):
            self.refused(0, line)

    def test_blocks(self):
        for at, text in (
            (0, "else"), (0, "end"), (1, "tell @\nend"), (2, "if there @\nend\nend"), (2, "if there @\nend\nelse"),
            (2, "if there @\nelse\nelse\nend"), (4, "if there @\nelse\ntell @\nend\nelse"),
            (1, "if there @"), (2, "if there @\nelse"), (3, "if there @\nif there @\nend"),
            (4, "if there @\nelse\nif there @\nelse"), (5, "if there @\nif there @\nelse\nend\nelse"),
            (5, "if there @\nif there @\nelse\nend\nend\nend"),
            (1, "tell @\n"), (0, "\n"), (0, "\ntell @"), (2, "if there @\nend\n"), (3, "tell @\nif found c\ntell @"),
        ):
            self.assertIsNone(self.refused(at, text))

    def test_the_first_wrong_line_counts(self):
        self.refused(1, "if there @\nelse if\ntell c\nend\nend")
        self.refused(0, "list under\nend")
        self.refused(2, "if there @\nelse\nelse\nlist under")

    def test_values(self):
        for word in ("0", "9", "10", "999999999999999999"):
            self.assertEqual(Program.read(AB, f"put @ {word}")[0].value, int(word))
            self.assertEqual(Program.read(AB, f"fill {word} all")[0].value, int(word))
            self.assertEqual(Program.read(AB, f"if is @ {word}\nend")[0].test.value, int(word))

    def test_the_letters_count(self):
        self.assertEqual(str(Program.read("abc", "tell c")), "tell c")
        self.refused(1, "tell @\ntell c")
        self.refused(0, "list under c")
        self.refused(0, "put A 1", "a-"[::-1])

    def test_many_nots(self):
        text = f"if {'not ' * 480}there @\nend"
        program = Program.read(AB, text)
        self.assertEqual(str(program), text)
        self.assertEqual(program, Program.read(AB, text))


if __name__ == "__main__":
    unittest.main()
