"""What [1], [2] and [3] promise over the whole program."""

import copy
import operator
import random
import time
import unittest

from tests.any_values import nested, no_strings
from tests.some_programs import Source, random_texts
from undername.alike import alike, least_parting, parting_names
from undername.bounds import Bound
from undername.choices import broken, can_run, fewest_rows, idle_rows, page_fault
from undername.desk import Desk
from undername.errors import (
    InvalidBound, InvalidCommand, InvalidLetters, InvalidMade, InvalidRow, NoKey, NoText, NoValue, UnderError,
)
from undername.made import Made
from undername.names import Names
from undername.papers import paper, paper_holds
from undername.programs import Program
from undername.rows import Found, If, Is, Page, Put, Some, Take, Tell, There
from undername.runs import run
from undername.sessions import Session
from undername.stores import Store
from undername.texts import check_letters, is_text
from undername.zones import Zone

AB = "ab"
ALL = Zone.everything(AB)
HERE = There(Made("@"))
PROGRAM = "page 1 c under @\nif same @ a@\nput @ 1\nelse\ntake under @a\nend\nlist all after c\ncopy b @"

# Any values: of each kind, nested at most eight deep, printable texts and newlines.
VALUES = no_strings() + ["", "a", "ab", "b", "@", "!", "\n", "a b", "~", "0", nested([], 6), nested("a", 8), nested((True, None), 7)]


def shown(value):
    """A result in a form that can be compared: stores as their pairs, programs and zones as texts."""
    if isinstance(value, Store):
        return value.letters, value.pairs()
    if isinstance(value, Names):
        return value.letters, value.table
    if isinstance(value, (Program, Zone, Bound, Made)):
        return str(value)
    if isinstance(value, (list, tuple)):
        return [shown(inner) for inner in value]
    return value


def calls():
    """Calls of functions about programs, each with its arguments by their names."""
    p, q = Program.read(AB, PROGRAM), Program.read(AB, "tell @\nput @ 1\nput @ 1")
    meant = {"names": Names.beginning(AB, "a"), "where": [Some(ALL), HERE]}
    compared = {"answers": True, "store": False}
    found = paper(q, q, **meant, **compared)
    return [
        (run, {"program": p, "name": "ab", "store": Store(AB, [("ab", 3), ("aab", 3)])}),
        (alike, {"p": p, "q": q, **meant, **compared}), (least_parting, {"p": p, "q": q, **meant, **compared}),
        (parting_names, {"p": p, "q": q, **meant, **compared}), (paper, {"p": q, "q": q, **meant, **compared}),
        (paper_holds, {"p": q, "q": q, "paper": found, **meant, **compared}), (can_run, {"program": p, **meant}),
        (idle_rows, {"program": q, **meant, **compared}), (fewest_rows, {"program": q, **meant, **compared}),
        (broken, {"program": p, "tests": [HERE], **meant}), (page_fault, {"program": p, "zone": ALL, **meant}),
    ]


class WholeTest(unittest.TestCase):
    def test_any_values_raise_what_is_described_alone(self):
        p = Program.read(AB, "put @ 1")
        store = Store(AB, [("a", 1)])
        zone, names = Zone.under(AB, Made("@")), Names.of(AB, ["a"])
        for work, errors in (
            (check_letters, InvalidLetters), (lambda value: is_text(AB, value), ()), (Made, InvalidMade),
            (Bound, InvalidBound), (lambda value: Bound("from", value), InvalidBound), (lambda value: value in names, ()),
            (lambda value: zone.has("a", value), ()), (lambda value: zone.has(value, "a"), NoText), (zone, NoText),
            (lambda value: value in store, ()), (lambda value: store[value], NoKey),
            (lambda value: operator.setitem(store.copied(), value, 1), NoText),
            (lambda value: operator.setitem(store.copied(), "a", value), NoValue),
            (Store, InvalidLetters), (Session, InvalidLetters), (Program, InvalidLetters),
            (lambda value: Program(AB, value), InvalidRow), (lambda value: Put(value, value), InvalidRow),
            (lambda value: Put(Made(), value), InvalidRow), (lambda value: Take(value, value), InvalidRow),
            (lambda value: Take(ALL, value), InvalidRow), (lambda value: Page(ALL, value, "c"), InvalidRow),
            (Found, InvalidRow), (Tell, InvalidRow), (lambda value: If(value, value), InvalidRow),
            (lambda value: If(HERE, value, value), InvalidRow), (lambda value: Is(Made(), value), InvalidRow),
            (lambda value: run(p, value, store), NoText), (lambda value: Session(AB).ask(value), NoText),
            (lambda value: setattr(Session(AB), "name", value), NoText), (lambda value: paper_holds(p, p, value), ()),
            (lambda value: paper_holds(p, p, (value, (), ())), ()), (lambda value: paper_holds(p, p, (value,) * 3), ()),
            (lambda value: Desk().say(value), InvalidCommand),
            (lambda value: (value == p, value == store, value == zone, value == names, value == HERE, value == Made("a")), ()),
        ):
            for value in VALUES:
                kept = copy.deepcopy(value)
                try:
                    work(value)
                except errors as error:
                    self.assertIsInstance(error, (UnderError, NoKey))
                self.assertEqual(value, kept)

    def test_papers_may_be_nested_deep(self):
        p = Program.read(AB, "tell @")
        deep = ()
        for _ in range(29):
            deep = ("there", 0, deep, [deep])
        self.assertIs(paper_holds(p, p, (deep, deep, deep)), False)
        self.assertIs(paper_holds(p, p, nested((), 60)), False)

    def test_in_place_operators_give_new_objects(self):
        for one, other, work in (
            (Made("a"), "@", operator.iadd), (Made("a"), 2, operator.imul), (Names.of(AB, ["a"]), Names.every(AB), operator.ior),
            (Names.every(AB), Names.of(AB, ["a"]), operator.iand), (Names.every(AB), Names.of(AB, ["a"]), operator.isub),
            (Names.every(AB), Names.of(AB, ["a"]), operator.ixor), (ALL, Zone.only(AB, Made()), operator.isub),
            (ALL, Zone.only(AB, Made()), operator.iand), (ALL, Zone.only(AB, Made()), operator.ixor),
            (Zone.only(AB, Made()), ALL, operator.ior), (Program.read(AB, "tell @"), Program.read(AB, "tell a"), operator.iadd),
        ):
            before = (shown(one), shown(other))
            found = work(one, other)
            self.assertIsNot(found, one)
            self.assertNotEqual(shown(found), before[0])
            self.assertEqual((shown(one), shown(other)), before)

    def test_arguments_by_name_in_another_order(self):
        for function, arguments in calls():
            with self.subTest(function=function.__name__):
                by_name = function(**arguments)
                other_order = function(**dict(reversed(arguments.items())))
                by_place = [arguments[name] for name in arguments if name not in ("names", "where", "answers", "store") or function is run]
                rest = {name: arguments[name] for name in arguments if name in ("names", "where", "answers", "store") and function is not run}
                for found in (other_order, function(*by_place, **rest)):
                    self.assertEqual(shown(self.plain(found)), shown(self.plain(by_name)))

    def plain(self, found):
        return (found.answers, found.store) if hasattr(found, "answers") else found

    def test_what_is_left_out_has_its_default(self):
        for function, arguments in calls():
            if function is run:
                continue
            needed = {name: value for name, value in arguments.items() if name not in ("names", "where", "answers", "store")}
            every = {"names": None, "where": ()}
            if "answers" in arguments:
                every.update(answers=True, store=True)
            self.assertEqual(shown(self.plain(function(**needed))), shown(self.plain(function(**needed, **every))))

    def test_what_is_handed_in_stays(self):
        for function, arguments in calls():
            before = {name: shown(value) if name != "where" else list(map(str, value)) for name, value in arguments.items()}
            function(**arguments)
            after = {name: shown(value) if name != "where" else list(map(str, value)) for name, value in arguments.items()}
            self.assertEqual(after, before)

    def test_later_changes_of_arguments_have_no_effect(self):
        rows, pairs, some = [Tell(Made("@"))], [("a", 1)], ["a"]
        row, program = If(HERE, rows, rows), Program(AB, rows)
        session, store, names = Session(AB, pairs), Store(AB, pairs), Names.of(AB, some)
        outcome = run(program, "a", store)
        session.do(Program.read(AB, "list all"))
        before = shown([program, store, names, session.copied(), outcome.answers, outcome.store, str(row)])
        rows.append(Tell(Made("a")))
        pairs.append(("b", 1))
        some.append("b")
        self.assertEqual(shown([program, store, names, session.copied(), outcome.answers, outcome.store, str(row)]), before)
        store["b"] = 7
        self.assertEqual(shown([outcome.store, session.copied()]), [(AB, [("a", 1)]), (AB, [("a", 1)])])

    def test_returned_stores_are_new_ones(self):
        p, q = Program.read(AB, "put @ 1"), Program.read(AB, "put @ 2")
        for work in (
            lambda: least_parting(p, q)[1], lambda: can_run(p)[0][1][1], lambda: broken(Program.read(AB, "take all"), [HERE])[1],
            lambda: page_fault(Program.read(AB, "page 1 c all\npage 1 c all"), ALL)[1],
        ):
            first = work()
            before = shown(first)
            first["bb"] = 5
            self.assertEqual(shown(work()), before)

    def test_the_same_call_returns_an_equal_result(self):
        first = [shown(self.plain(function(**arguments))) for function, arguments in calls()]
        for function, arguments in reversed(calls()):
            function(**arguments)
        self.assertEqual([shown(self.plain(function(**arguments))) for function, arguments in calls()], first)

    def test_methods_without_a_result_return_none(self):
        self.assertIsNone(Session(AB).ask("a"))

    def test_sequences_may_be_lists_or_tuples(self):
        p, q = Program(AB, (Put(Made("@"), 1),)), Program(AB, [Put(Made("@"), 1)])
        self.assertEqual(p, q)
        for where in ([HERE], (HERE,)):
            self.assertIs(alike(p, Program(AB), where=where), False)
            self.assertIsNone(broken(p, where))
            self.assertEqual(shown(Session(AB).tried(type(where)([p]))), (AB, [("", 1)]))

    def test_many_drawn_programs(self):
        """Each answer about small programs comes in a small part of a second."""
        source = random.Random(18)
        began = time.monotonic()
        for _ in range(150):
            drawn = Source(source, AB, random_texts(source, AB, source.randint(1, 2)), pages=1)
            p = drawn.program(source.randint(2, 4))
            q = drawn.changed(p)
            for one, other in ((p, p), (p, q)):
                found = paper(one, other)
                self.assertIs(found is not None, alike(one, other))
                self.assertIs(found is not None, least_parting(one, other) is None)
                self.assertIs(paper_holds(one, other, found), found is not None)
            self.assertEqual(fewest_rows(p).letters, AB)
            idle_rows(p)
            can_run(p)
        self.assertLess(time.monotonic() - began, 60)


if __name__ == "__main__":
    unittest.main()
