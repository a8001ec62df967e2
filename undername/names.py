"""Sets of names that finite machines read."""

from undername.counts import least_name, many_of_length, name_with_number, size_of
from undername.errors import Mismatch, NoName, NoText
from undername.machines import joined, least_table, met_table, state_behind
from undername.tables import table_behind, table_in_front, table_of, table_of_family
from undername.texts import is_text


class Names:
    """A set of names over letters, with the table of its least machine."""

    def __init__(self, letters, table):
        self.letters = letters
        self.table = table

    @classmethod
    def none(cls, letters):
        return cls(letters, _constant(letters, False))

    @classmethod
    def every(cls, letters):
        return cls(letters, _constant(letters, True))

    @classmethod
    def of(cls, letters, some):
        for name in some:
            _check_text(letters, name)
        return cls(letters, table_of(letters, some))

    @classmethod
    def beginning(cls, letters, text):
        _check_text(letters, text)
        return cls(letters, table_in_front(letters, text, _constant(letters, True)))

    @classmethod
    def family(cls, letters, word, rest, count=0):
        _check_text(letters, word)
        _check_text(letters, rest)
        return cls(letters, table_of_family(letters, word, rest, count))

    @property
    def size(self):
        return size_of(self.table)

    @property
    def least(self):
        return least_name(self.letters, self.table)

    def many(self, length):
        """Return the number of names with so many letters."""
        return many_of_length(self.table, length)

    def __getitem__(self, at):
        name = name_with_number(self.letters, self.table, at)
        if name is None:
            raise NoName(at)
        return name

    def __iter__(self):
        raise TypeError("sets of names are not iterable")

    def __contains__(self, x):
        if not is_text(self.letters, x):
            return False
        return self.table[state_behind(self.letters, self.table, 0, x)][0]

    def __bool__(self):
        return bool(self.table != _constant(self.letters, False))

    def __eq__(self, other):
        return isinstance(other, Names) and self.letters == other.letters and self.table == other.table

    def __and__(self, other):
        if not isinstance(other, Names):
            return NotImplemented
        return _merged(self, other, (False, False, False, True))

    def __or__(self, other):
        if not isinstance(other, Names):
            return NotImplemented
        return _merged(self, other, (False, True, True, True))

    def __sub__(self, other):
        if not isinstance(other, Names):
            return NotImplemented
        return _merged(self, other, (False, False, True, False))

    def __xor__(self, other):
        if not isinstance(other, Names):
            return NotImplemented
        return _merged(self, other, (False, True, True, False))

    def __invert__(self):
        return Names(self.letters, tuple([(not is_in, way) for is_in, way in self.table]))

    def __le__(self, other):
        if not isinstance(other, Names):
            return NotImplemented
        return _is_within(self, other)

    def __lt__(self, other):
        if not isinstance(other, Names):
            return NotImplemented
        return _is_within(self, other) and self.table != other.table

    def __ge__(self, other):
        if not isinstance(other, Names):
            return NotImplemented
        return _is_within(other, self)

    def __gt__(self, other):
        if not isinstance(other, Names):
            return NotImplemented
        return _is_within(other, self) and self.table != other.table

    def __add__(self, other):
        _check_text(self.letters, other)
        return Names(self.letters, table_behind(self.letters, self.table, other))

    def __radd__(self, other):
        _check_text(self.letters, other)
        return Names(self.letters, table_in_front(self.letters, other, self.table))

    def __floordiv__(self, other):
        _check_text(self.letters, other)
        start = state_behind(self.letters, self.table, 0, other)
        labels = [is_in for is_in, _ in self.table]
        return Names(self.letters, met_table(labels, [way for _, way in self.table], start))


def _check_text(letters, value):
    if not is_text(letters, value):
        raise NoText(value)


def _constant(letters, is_in):
    """Return the table in which every name is, or none."""
    return ((is_in, tuple([0 for _ in letters])),)


def _joined(one, other):
    """Return the machine with the pairs of the labels of two sets."""
    if one.letters != other.letters:
        raise Mismatch()
    return joined(one.table, other.table)


def _merged(one, other, wanted):
    """Return the names wanted: by whether they are in neither, the other, the one or both."""
    pairs, ways = _joined(one, other)
    return Names(one.letters, least_table([wanted[2 * int(first) + int(second)] for first, second in pairs], ways))


def _is_within(one, other):
    pairs, _ = _joined(one, other)
    return all([second for first, second in pairs if first])
