import random
import unittest

from tests.any_values import no_strings, random_text
from tests.some_programs import Source, random_texts
from undername.alike import least_parting
from undername.desk import Desk
from undername.errors import InvalidCommand, InvalidLetters, InvalidProgram, InvalidZone, NoText
from undername.sessions import Session

AB = "ab"


class DeskTest(unittest.TestCase):
    def check(self, *rows, desk=None):
        """Say commands to a desk, each with the text that is due; return the desk."""
        desk = Desk() if desk is None else desk
        for command, text in rows:
            with self.subTest(command=command):
                self.assertEqual(desk.say(command), text)
        return desk

    def ready(self, *rows):
        return self.check(("letters ab", "ready"), *rows)

    def refused(self, desk, command, error, value=None):
        before = self.state(desk)
        with self.subTest(command=command):
            with self.assertRaises(error) as caught:
                desk.say(command)
            if value is not None:
                self.assertEqual(list(vars(caught.exception).values()), [value])
        self.assertEqual(self.state(desk), before)

    def state(self, desk):
        """What a desk shows of itself; the commands that ask for it change nothing."""
        found = [len(desk)]
        for command in ("show", "zone key @", "against tell @", "against put @ 1"):
            try:
                found.append(desk.say(command))
            except InvalidCommand:
                found.append("no")
        return found

    def test_the_example(self):
        desk = self.ready(("do put a 1 ; put b 2 ; count under !", "2"), ("show", "a=1 b=2"))
        self.assertEqual(len(desk), 1)

    def test_each_command(self):
        desk = self.ready(
            ("show", "none"), ("name ab", "named"), ("do put @ 3", "done"), ("show", "ab=3"),
            ("name !", "named"), ("do put @ 0 ; tell @ ; tell b", "0 ; none"), ("show", "!=0 ab=3"),
            ("zone all", "!.."), ("zone under a | under b", "a.."), ("zone key @ | key b", "!..a b..ba"),
            ("name b", "named"), ("zone under @", "b.."), ("zone under a", "a..b"), ("zone under @ & under a", "none"),
            ("zone not under a", "!..a b.."), ("zone key !", "!..a"), ("zone from ! to from a@", "!..ab"),
            ("inside under @a : under @", "always"), ("inside under @ : under @a", "! !"), ("inside all : under a@", "! !"),
            ("inside under a@ : from a@ to from b@", "always"), ("inside from a@ to from b@ : under a@", "a ab"), ("inside key b@ : not key @b", "! b"),
            ("keep tell @ ; if there @ ; tell a ; end", "kept 3"), ("against tell @", "! : !=0"),
            ("against tell @ ; if not there @ ; else ; tell a ; end", "alike"), ("keep put @ 1", "kept 1"),
            ("against put @ 2", "! : none"), ("against put @ 2 ; put @ 1", "alike"), ("keep if same a b ; tell a ; end", "kept 2"),
            ("against if there a ; if same b a ; tell b ; tell b ; end ; end", "! : a=0 b=0"),
            ("undo", "undone"), ("show", "ab=3"), ("undo", "undone"), ("undo", "nothing"), ("show", "none"),
        )
        self.assertEqual(len(desk), 0)

    def test_answers(self):
        self.ready(
            ("do put ! 4 ; put a 1 ; put ab 2", "done"), ("do list all", "!=4 a=1 ab=2"), ("do list under b", "none"),
            ("do last all", "ab=2"), ("do last key !", "!=4"), ("do last under b", "none"), ("do count all", "3"),
            ("do count under b", "0"), ("do tell !", "4"), ("do tell b", "none"), ("do page 2 c all", "!=4 a=1"),
            ("do page 1 c under b", "none"), ("do page 1 c all ; list all after c ; last under b ; tell a ; count all",
                                              "!=4 ; a=1 ab=2 ; none ; 1 ; 3"),
            ("do if found c ; tell a ; end", "done"), ("do put a 0 ; tell a", "0"),
        )

    def test_programs_as_texts(self):
        desk = self.ready(
            ("do if there @ ; else ; put @ 1 ; end", "done"), ("show", "!=1"), ("do put @ 999999999999999999", "done"),
            ("show", "!=999999999999999999"),
        )
        # The signs stand for newlines only with blanks on both sides, from left to right.
        for text, line in (("put @ 1 ;", 0), ("; put @ 1", 0), ("put @ 1 ; ; put @ 2", 1), ("put @ 1; put @ 2", 0), (";", 0),
                           ("; ; ;", 0), ("put @ 1 ; put @ 2 ; ;", 2), ("put @ 1 ;put a 2", 0)):
            for word in ("do", "keep"):
                self.refused(desk, f"{word} {text}", InvalidProgram, line)

    def test_undo_and_len(self):
        desk = Desk()
        self.assertEqual(len(desk), 0)
        self.check(("letters ab", "ready"), ("undo", "nothing"), ("do tell @", "none"), ("do put a 1", "done"), desk=desk)
        self.assertEqual(len(desk), 2)
        self.check(("show", "a=1"), ("keep tell @", "kept 1"), ("against tell @", "alike"), ("undo", "undone"), desk=desk)
        self.assertEqual(len(desk), 1)

    def test_a_new_session_forgets(self):
        desk = self.ready(("name a", "named"), ("do put @ 1", "done"), ("keep tell @", "kept 1"), ("letters ab", "ready"))
        self.assertEqual(len(desk), 0)
        self.check(("show", "none"), ("zone key @", "!..a"), ("undo", "nothing"), desk=desk)
        self.refused(desk, "against tell @", InvalidCommand)
        self.check(("letters -/0", "ready"), ("zone under /", "/..0"), ("name -", "named"), ("zone key @", "-..--"), desk=desk)

    def test_values_that_are_no_commands(self):
        for desk in (Desk(), self.ready()):
            for value in no_strings() + [
                "", " ", "show ", " show", "show  ", "do  put @ 1", "do put @  1", "do put @ 1\n", "\nshow", "show\n",
                "do put @ 1\nput a 1", "keep tell @\n",
            ]:
                self.refused(desk, value, InvalidCommand)

    def test_forms(self):
        desk = self.ready(("keep tell @", "kept 1"))
        for command in (
            "letters", "letters a b", "letters ab ab", "name", "name a b", "name ! !", "do", "undo undo", "undo 1", "show all",
            "show show", "zone", "inside", "inside all", "inside all all", "inside : all", "inside all :", "inside :",
            "inside : :", "inside all : all : all", "inside : all : all", "inside all : : all", "inside all: all", "inside all :all",
            "keep", "against", "Show", "SHOW", "help", "!", ":", ";", "put @ 1", "tell @", "lettersab", "undone", "ready",
        ):
            self.refused(desk, command, InvalidCommand)

    def test_commands_ahead_of_any_letters(self):
        desk = Desk()
        for command in (
            "name a", "name c", "do put @ 1", "do x", "undo", "show", "zone all", "zone x", "inside all : all", "inside x : y",
            "keep tell @", "keep x", "against tell @", "against x",
        ):
            self.refused(desk, command, InvalidCommand)
        self.assertEqual(len(desk), 0)
        self.check(("letters ab", "ready"), ("show", "none"), desk=desk)

    def test_against_without_a_kept_program(self):
        desk = self.ready()
        for command in ("against tell @", "against x", "against put c 1"):
            self.refused(desk, command, InvalidCommand)
        self.refused(desk, "keep tell c", InvalidProgram, 0)
        self.refused(desk, "against tell @", InvalidCommand)
        self.check(("keep tell @", "kept 1"), ("against tell @", "alike"), desk=desk)

    def test_wrong_letters(self):
        for desk in (Desk(), self.ready(("do put a 1", "done"), ("keep tell @", "kept 1"))):
            for letters in ("a", "ba", "aa", "abcdef", "a@", "AB", "!", "a;", ":"):
                self.refused(desk, f"letters {letters}", InvalidLetters)

    def test_wrong_names(self):
        desk = self.ready(("name ab", "named"))
        for name in ("c", "a!", "!!", "@", "A", "a@"):
            self.refused(desk, f"name {name}", NoText, name)
        self.check(("zone key @", "ab..aba"), desk=desk)

    def test_wrong_texts(self):
        desk = self.ready(("keep tell @", "kept 1"), ("do put a 1", "done"))
        for command, error, at in (
            ("zone x", InvalidZone, 0), ("zone under", InvalidZone, 1), ("zone under c", InvalidZone, 1),
            ("zone all all", InvalidZone, 1), ("zone all &", InvalidZone, 2), ("inside x : y", InvalidZone, 0),
            ("inside under : all x", InvalidZone, 1), ("inside all : under", InvalidZone, 1), ("inside all : all x", InvalidZone, 1),
            ("inside all & : x", InvalidZone, 2), ("do tell c", InvalidProgram, 0), ("do put @ 5 ; x", InvalidProgram, 1),
            ("do if there @", InvalidProgram, 1), ("keep tell @ ; end", InvalidProgram, 1), ("against else", InvalidProgram, 0),
            ("against tell @ ; list under", InvalidProgram, 1), ("zone :", InvalidZone, 0), ("do :", InvalidProgram, 0),
        ):
            self.refused(desk, command, error, at)
        with self.assertRaises(InvalidProgram) as caught:
            desk.say("do list under")
        self.assertIsInstance(caught.exception.__cause__, InvalidZone)

    def test_random_commands(self):
        source = random.Random(17)
        for _ in range(60):
            desk, session = Desk(), Session(AB)
            self.check(("letters ab", "ready"), desk=desk)
            drawn = Source(source, AB, random_texts(source, AB, 2), pages=2)
            kept = drawn.program(2)
            if not len(kept):
                continue
            self.assertEqual(desk.say(f"keep {self.text(kept)}"), f"kept {len(kept)}")
            for _ in range(8):
                name = random_text(source, AB, 3)
                session.ask(name)
                self.assertEqual(desk.say(f"name {name or '!'}"), "named")
                drawn.pages = 0
                program = drawn.program(2)
                if not len(program):
                    continue
                answers = session.do(program)
                self.assertEqual(desk.say(f"do {self.text(program)}"), " ; ".join(map(self.answer, answers)) or "done")
                self.assertEqual(desk.say("show"), self.pairs(session.copied().pairs()))
                self.assertEqual(len(desk), len(session))
                found = least_parting(kept, program)
                expected = "alike" if found is None else f"{found[0] or '!'} : {self.pairs(found[1].pairs())}"
                self.assertEqual(desk.say(f"against {self.text(program)}"), expected)

    def text(self, program):
        return str(program).replace("\n", " ; ")

    def pairs(self, pairs):
        return " ".join(f"{key or '!'}={value}" for key, value in pairs) or "none"

    def answer(self, answer):
        word, told = answer
        if word in ("list", "page"):
            return self.pairs(told)
        if told is None:
            return "none"
        return self.pairs([told]) if word == "last" else str(told)

    def test_desks_do_not_share(self):
        one, other = Desk(), Desk()
        one.say(command="letters ab")
        one.say("do put a 1")
        with self.assertRaises(InvalidCommand):
            other.say("show")
        other.say("letters ab")
        self.assertEqual((one.say("show"), other.say("show"), len(one), len(other)), ("a=1", "none", 1, 0))

    def test_kept_programs_stay(self):
        desk = self.ready(("keep put @ 1", "kept 1"), ("do take all", "done"), ("name b", "named"), ("undo", "undone"))
        self.check(("against put @ 1", "alike"), desk=desk)
        self.refused(desk, "keep x", InvalidProgram, 0)
        self.check(("against put @ 1", "alike"), ("keep tell @", "kept 1"), ("against put @ 1", "! : none"), desk=desk)


if __name__ == "__main__":
    unittest.main()
