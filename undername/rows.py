"""The rows of programs, and the tests of their blocks."""

from undername.errors import InvalidRow
from undername.made import Made
from undername.texts import is_number
from undername.zones import Zone

FIND_LETTERS = "abcdefghijklmnopqrstuvwxyz"
MOST_FIND_LETTERS = 4
MOST_COUNT = 3


class Row:
    """What all rows are."""


class Change(Row):
    """What the rows are that change the store."""


class Asking(Row):
    """What the rows are that answer."""


class Zoned(Row):
    """What the rows with a zone are."""


class Test:
    """What all tests are."""


class Put(Change):
    """Sets a value under a key."""

    def __init__(self, key, value):
        _check_made(key)
        _check_value(value)
        self.key = key
        self.value = value

    def __eq__(self, other):
        return isinstance(other, Put) and str(self) == str(other)

    def __str__(self):
        return f"put {self.key} {self.value}"


class Copy(Change):
    """Sets the value of a source under a key, if the source is there."""

    def __init__(self, key, source):
        _check_made(key)
        _check_made(source)
        self.key = key
        self.source = source

    def __eq__(self, other):
        return isinstance(other, Copy) and str(self) == str(other)

    def __str__(self):
        return f"copy {self.key} {self.source}"


class Take(Change, Zoned):
    """Removes the keys of a zone."""

    def __init__(self, zone, after=None):
        _check_zone(zone)
        _check_after(after)
        self.zone = zone
        self.after = after

    def __eq__(self, other):
        return isinstance(other, Take) and _are_alike(self, other)

    def __str__(self):
        return f"take {self.zone}{_after_text(self.after)}"


class Keep(Change, Zoned):
    """Removes all keys that are not in a zone."""

    def __init__(self, zone):
        _check_zone(zone)
        self.zone = zone

    def __eq__(self, other):
        return isinstance(other, Keep) and _are_alike(self, other)

    def __str__(self):
        return f"keep {self.zone}"


class Fill(Change, Zoned):
    """Gives the keys of a zone a value."""

    def __init__(self, zone, value, after=None):
        _check_zone(zone)
        _check_value(value)
        _check_after(after)
        self.zone = zone
        self.value = value
        self.after = after

    def __eq__(self, other):
        return isinstance(other, Fill) and _are_alike(self, other)

    def __str__(self):
        return f"fill {self.value} {self.zone}{_after_text(self.after)}"


class Tell(Asking):
    """Answers the value of a key."""

    def __init__(self, key):
        _check_made(key)
        self.key = key

    def __eq__(self, other):
        return isinstance(other, Tell) and str(self) == str(other)

    def __str__(self):
        return f"tell {self.key}"


class List(Asking, Zoned):
    """Answers the keys of a zone with their values."""

    def __init__(self, zone, after=None):
        _check_zone(zone)
        _check_after(after)
        self.zone = zone
        self.after = after

    def __eq__(self, other):
        return isinstance(other, List) and _are_alike(self, other)

    def __str__(self):
        return f"list {self.zone}{_after_text(self.after)}"


class Count(Asking, Zoned):
    """Answers the number of the keys of a zone."""

    def __init__(self, zone, after=None):
        _check_zone(zone)
        _check_after(after)
        self.zone = zone
        self.after = after

    def __eq__(self, other):
        return isinstance(other, Count) and _are_alike(self, other)

    def __str__(self):
        return f"count {self.zone}{_after_text(self.after)}"


class Last(Asking, Zoned):
    """Answers the greatest key of a zone with its value."""

    def __init__(self, zone, after=None):
        _check_zone(zone)
        _check_after(after)
        self.zone = zone
        self.after = after

    def __eq__(self, other):
        return isinstance(other, Last) and _are_alike(self, other)

    def __str__(self):
        return f"last {self.zone}{_after_text(self.after)}"


class Page(Asking, Zoned):
    """Answers the first keys of a zone with their values; a find holds the last of them then."""

    def __init__(self, zone, count, found, after=None):
        _check_zone(zone)
        if not is_number(count) or not 1 <= count <= MOST_COUNT:
            raise InvalidRow("count")
        _check_find(found)
        _check_after(after)
        self.zone = zone
        self.count = count
        self.found = found
        self.after = after

    def __eq__(self, other):
        return isinstance(other, Page) and _are_alike(self, other)

    def __str__(self):
        return f"page {self.count} {self.found} {self.zone}{_after_text(self.after)}"


class If(Row):
    """Does rows if a test holds, else others."""

    def __init__(self, test, rows, others=()):
        _check_test(test)
        check_rows(rows)
        check_rows(others)
        self.test = test
        self.rows = tuple(rows)
        self.others = tuple(others)

    def __eq__(self, other):
        return isinstance(other, If) and _are_alike(self, other)

    def __str__(self):
        return "\n".join(_lines(self))


class There(Test):
    """Whether a key is in the store."""

    def __init__(self, key):
        _check_made(key)
        self.key = key

    def __eq__(self, other):
        return isinstance(other, There) and str(self) == str(other)

    def __str__(self):
        return f"there {self.key}"


class Is(Test):
    """Whether a key is there with a value."""

    def __init__(self, key, value):
        _check_made(key)
        _check_value(value)
        self.key = key
        self.value = value

    def __eq__(self, other):
        return isinstance(other, Is) and str(self) == str(other)

    def __str__(self):
        return f"is {self.key} {self.value}"


class Same(Test):
    """Whether two keys are there with the same value."""

    def __init__(self, key, other):
        _check_made(key)
        _check_made(other)
        self.key = key
        self.other = other

    def __eq__(self, other):
        return isinstance(other, Same) and str(self) == str(other)

    def __str__(self):
        return f"same {self.key} {self.other}"


class Some(Test):
    """Whether there is a key of a zone."""

    def __init__(self, zone, after=None):
        _check_zone(zone)
        _check_after(after)
        self.zone = zone
        self.after = after

    def __eq__(self, other):
        return isinstance(other, Some) and _are_alike(self, other)

    def __str__(self):
        return f"some {self.zone}{_after_text(self.after)}"


class Found(Test):
    """Whether a find holds a key."""

    def __init__(self, found):
        _check_find(found)
        self.found = found

    def __eq__(self, other):
        return isinstance(other, Found) and str(self) == str(other)

    def __str__(self):
        return f"found {self.found}"


class Not(Test):
    """Whether a test does not hold."""

    def __init__(self, test):
        _check_test(test)
        self.test = test

    def __eq__(self, other):
        return isinstance(other, Not) and _are_alike(self, other)

    def __str__(self):
        return " ".join(_words_of_not(self))


def is_find(value):
    """Tell whether any value is the name of a find."""
    if not isinstance(value, str) or not 1 <= len(value) <= MOST_FIND_LETTERS:
        return False
    return all([letter in FIND_LETTERS for letter in value])


def _check_made(value):
    if not isinstance(value, Made):
        raise InvalidRow("made")


def _check_zone(value):
    if not isinstance(value, Zone):
        raise InvalidRow("zone")


def _check_value(value):
    if not is_number(value) or value < 0:
        raise InvalidRow("value")


def _check_find(value):
    if not is_find(value):
        raise InvalidRow("found")


def _check_after(value):
    if value is not None:
        _check_find(value)


def _check_test(value):
    if not isinstance(value, Test):
        raise InvalidRow("test")


def check_rows(value):
    """Raise InvalidRow if a value is no list or tuple of rows."""
    if not isinstance(value, (list, tuple)) or not all([isinstance(row, Row) for row in value]):
        raise InvalidRow("row")


def _after_text(after):
    return "" if after is None else f" after {after}"


def _lines(row):
    """Return the texts of an If, its rows and others, of which each may have several lines."""
    others = ["else", *[str(inner) for inner in row.others]] if row.others else []
    return [f"if {row.test}", *[str(inner) for inner in row.rows], *others, "end"]


def _words_of_not(test):
    # Tests may be hundreds of Nots deep, so they are no calls within calls.
    words = []
    inner = test
    while isinstance(inner, Not):
        words.append("not")
        inner = inner.test
    return [*words, str(inner)]


def _are_alike(one, other):
    """Tell whether two rows or tests of one class have the same text and the same letters."""
    return str(one) == str(other) and _letters_of_zones(one) == _letters_of_zones(other)


def _letters_of_zones(part):
    """Return the letters of the zones of a row or a test, in order."""
    inner = part
    while isinstance(inner, Not):
        inner = inner.test
    if isinstance(inner, If):
        parts = [inner.test, *inner.rows, *inner.others]
        return [letters for some in parts for letters in _letters_of_zones(some)]
    return [inner.zone.letters] if isinstance(inner, (Zoned, Some)) else []
