import random
import unittest

from tests.any_values import no_strings, random_text
from tests.plain_runs import plain_run
from tests.some_programs import Source, random_texts
from undername.errors import InvalidLetters, Mismatch, NoText, NoValue
from undername.names import Names
from undername.programs import Program
from undername.sessions import Session
from undername.stores import Store

AB = "ab"


def read(text):
    return Program.read(AB, text)


def state(session):
    return session.copied().pairs(), session.name, len(session)


class Model:
    """A session as a list of tables."""

    def __init__(self, pairs):
        self.tables = [dict(pairs)]
        self.name = ""

    def state(self):
        return sorted(self.tables[-1].items()), self.name, len(self.tables) - 1

    def do(self, program):
        answers, table, _ = plain_run(program, self.name, Store(AB, list(self.tables[-1].items())))
        self.tables.append(table)
        return answers

    def undo(self):
        if len(self.tables) == 1:
            return False
        self.tables.pop()
        return True


class SessionsTest(unittest.TestCase):
    def test_at_first(self):
        session = Session(AB)
        self.assertEqual((session.letters, session.name, len(session), session.copied()), (AB, "", 0, Store(AB)))
        session = Session(pairs=[("b", 1), ("a", 2), ("b", 3)], letters=AB)
        self.assertEqual(session.copied(), Store(AB, [("a", 2), ("b", 3)]))
        self.assertEqual(len(Session(AB, (("a", 1),))), 0)

    def test_errors_of_the_constructor(self):
        for value in no_strings() + ["", "ba", "abcdef", "a@"]:
            for pairs in ((), [(1, 1)]):
                with self.assertRaises(InvalidLetters):
                    Session(value, pairs)
        for pairs, error, wrong in (
            ([("c", 1)], NoText, "c"), ([("a", 1), (None, -1)], NoText, None), ([("a", -1), ("c", 1)], NoValue, -1),
            ([("a", True)], NoValue, True), ([("a", 1), ("b", "1")], NoValue, "1"), ([("c", -1)], NoText, "c"),
        ):
            with self.assertRaises(error) as caught:
                Session(AB, pairs)
            self.assertIs(caught.exception.value, wrong)

    def test_names(self):
        session = Session(AB)
        session.name = "ab"
        self.assertEqual(session.name, "ab")
        self.assertIsNone(session.ask("b"))
        self.assertEqual(session.name, "b")
        session.ask(name="")
        self.assertEqual(session.name, "")
        session.name = "ba"
        for value in no_strings() + ["c", "a ", "@", "!"]:
            with self.assertRaises(NoText) as caught:
                session.name = value
            self.assertIs(caught.exception.value, value)
            with self.assertRaises(NoText) as caught:
                session.ask(value)
            self.assertIs(caught.exception.value, value)
        self.assertEqual(state(session), ([], "ba", 0))

    def test_name_is_a_property(self):
        self.assertIsInstance(vars(Session)["name"], property)

    def test_copies(self):
        pairs = [("a", 1)]
        session = Session(AB, pairs)
        pairs.append(("b", 2))
        copied = session.copied()
        copied["b"] = 3
        self.assertEqual(session.copied().pairs(), [("a", 1)])
        session.do(read("put b 5"))
        self.assertEqual(copied.pairs(), [("a", 1), ("b", 3)])

    def test_doing_and_taking_back(self):
        session = Session(AB, [("a", 1)])
        session.ask("a")
        self.assertEqual(session.do(read("tell @\nput @b 2\nlist all")), (("tell", 1), ("list", (("a", 1), ("ab", 2)))))
        self.assertEqual(state(session), ([("a", 1), ("ab", 2)], "a", 1))
        self.assertEqual(session.do(program=read("tell @")), (("tell", 1),))
        self.assertEqual(session.do(Program(AB)), ())
        self.assertEqual(len(session), 3)
        session.name = "b"
        self.assertEqual([session.undo() for _ in range(5)], [True, True, True, False, False])
        # Only the store is taken back.
        self.assertEqual(state(session), ([("a", 1)], "b", 0))
        session.do(read("put @ 7"))
        self.assertEqual(state(session), ([("a", 1), ("b", 7)], "b", 1))
        self.assertIs(session.undo(), True)
        self.assertEqual(state(session), ([("a", 1)], "b", 0))

    def test_mismatch_changes_nothing(self):
        session = Session(AB, [("a", 1)])
        session.do(read("put b 1"))
        before = state(session)
        for work in (
            lambda: session.do(Program("abc")), lambda: session.tried([read("put @ 5"), Program("abc")]),
            lambda: session.within(lambda some: [some.do(read("put @ 5")), some.ask("b"), some.do(Program("abc"))]),
        ):
            with self.assertRaises(Mismatch):
                work()
            self.assertEqual(state(session), before)

    def test_trials(self):
        session = Session(AB, [("a", 1)])
        session.ask("a")
        session.do(read("put b 1"))
        before = state(session)
        with session.trial() as inner:
            self.assertIs(inner, session)
            session.do(read("take all"))
            session.name = "bb"
            with session.trial():
                self.assertEqual([session.undo(), session.undo(), session.undo()], [True, True, False])
                session.do(read("put @ 9"))
                self.assertEqual(state(session), ([("a", 1), ("bb", 9)], "bb", 1))
            self.assertEqual(state(session), ([], "bb", 2))
        self.assertEqual(state(session), before)
        self.assertIs(session.undo(), True)
        self.assertEqual(state(session), ([("a", 1)], "a", 0))

    def test_trials_that_end_by_an_error(self):
        session = Session(AB, [("a", 1)])
        before = state(session)
        error = KeyError("own")
        with self.assertRaises(KeyError) as caught:
            with session.trial():
                session.do(read("put @ 1"))
                session.ask("b")
                raise error
        self.assertIs(caught.exception, error)
        self.assertEqual(state(session), before)
        with self.assertRaises(NoText):
            with session.trial():
                session.do(read("put @ 1"))
                session.name = "c"
        self.assertEqual(state(session), before)

    def test_trials_are_new_ones(self):
        session = Session(AB)
        one, other = session.trial(), session.trial()
        self.assertIsNot(one, other)
        # A trial keeps what is there when it is entered, not when it is made.
        session.do(read("put a 1"))
        with one:
            session.do(read("put b 1"))
        self.assertEqual(state(session), ([("a", 1)], "", 1))
        session.do(read("put b 2"))
        with other:
            session.undo()
        self.assertEqual(state(session), ([("a", 1), ("b", 2)], "", 2))

    def test_within(self):
        session = Session(AB, [("a", 1)])
        before = state(session)

        def work(some):
            self.assertIs(some, session)
            some.ask("b")
            return some.do(read("put @ 5\nlist all"))

        self.assertEqual(session.within(work), (("list", (("a", 1), ("b", 5))),))
        self.assertEqual(state(session), before)
        self.assertEqual(session.within(work=len), 0)
        self.assertIsNone(session.within(lambda some: None))
        with self.assertRaises(ZeroDivisionError):
            session.within(lambda some: (some.do(read("take all")), 1 // 0))
        self.assertEqual(state(session), before)

    def test_tried(self):
        session = Session(AB, [("a", 1)])
        session.ask("b")
        before = state(session)
        programs = [read("put @ 1"), read("copy @@ @"), read("take key a")]
        tried = session.tried(programs)
        self.assertEqual(tried, Store(AB, [("b", 1), ("bb", 1)]))
        self.assertEqual(state(session), before)
        self.assertEqual(session.tried(programs=tuple(programs)), tried)
        self.assertEqual(session.tried([]), Store(AB, [("a", 1)]))
        tried["a"] = 8
        session.tried([])["b"] = 9
        self.assertEqual(state(session), before)
        self.assertEqual(len(programs), 3)

    def test_against_a_model(self):
        source = random.Random(16)
        for _ in range(60):
            pairs = [(random_text(source, AB, 2), source.randrange(3)) for _ in range(3)]
            session, model = Session(AB, pairs), Model(pairs)
            drawn = Source(source, AB, random_texts(source, AB, 2))
            waiting = []
            for _ in range(60):
                deed = source.randint(0, 9)
                if deed <= 3:
                    drawn.pages = 3
                    program = drawn.program(3)
                    self.assertEqual(session.do(program), model.do(program))
                elif deed <= 5:
                    self.assertIs(session.undo(), model.undo())
                elif deed == 6:
                    name = random_text(source, AB, 3)
                    model.name = name
                    session.ask(name) if source.random() < 0.5 else setattr(session, "name", name)
                elif deed == 7 and len(waiting) < 3:
                    trial = session.trial()
                    self.assertIs(trial.__enter__(), session)
                    waiting.append((trial, list(model.tables), model.name))
                elif deed == 8 and waiting:
                    trial, model.tables, model.name = waiting.pop()
                    error = source.choice([None, ValueError("own")])
                    self.assertFalse(trial.__exit__(error and ValueError, error, None))
                else:
                    program = drawn.program(2)
                    tables = list(model.tables)
                    model.do(program)
                    self.assertEqual(session.tried([program]).pairs(), model.state()[0])
                    model.tables = tables
                self.assertEqual(state(session), model.state())

    def test_many_runs(self):
        session = Session(AB)
        for at in range(60):
            session.do(read(f"put a {at}"))
        self.assertEqual(len(session), 60)
        for at in range(59, -1, -1):
            self.assertEqual(session.copied()["a"], at)
            self.assertIs(session.undo(), True)
        self.assertEqual(state(session), ([], "", 0))

    def test_sessions_do_not_share(self):
        one, other = Session(AB, [("a", 1)]), Session(AB, [("a", 1)])
        one.do(read("take all"))
        one.ask("b")
        self.assertEqual(state(other), ([("a", 1)], "", 0))
        with self.assertRaises(InvalidLetters):
            Session(Names.every(AB))


if __name__ == "__main__":
    unittest.main()
