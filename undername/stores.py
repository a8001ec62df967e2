"""Stores: tables from keys to values."""

from undername.errors import NoKey, NoText, NoValue
from undername.texts import check_letters, is_number, is_text


class Store:
    """A table from keys, texts over the letters, to values."""

    def __init__(self, letters, pairs=()):
        check_letters(letters)
        self.letters = letters
        self.table = {}
        for key, value in pairs:
            self[key] = value

    def __setitem__(self, at, worth):
        if not is_text(self.letters, at):
            raise NoText(at)
        check_value(worth)
        self.table[at] = worth

    def __getitem__(self, at):
        if at not in self:
            raise NoKey(at)
        return self.table[at]

    def __iter__(self):
        raise TypeError("stores are not iterable")

    def __contains__(self, x):
        # Not every value may be looked up in a dict.
        return is_text(self.letters, x) and x in self.table

    def __len__(self):
        return len(self.table)

    def __eq__(self, other):
        return isinstance(other, Store) and self.letters == other.letters and self.table == other.table

    def pairs(self, low="", high=None, *, after=None):
        """Return the pairs of a stretch, ascending by key."""
        return [(key, self.table[key]) for key in _keys(self, low, high, after)]

    def page(self, count, low="", high=None, *, after=None):
        """Return the first so many pairs of a stretch, or all if they are fewer."""
        return [(key, self.table[key]) for key in _keys(self, low, high, after)[:count]]

    def take(self, low, high, *, after=None):
        """Remove the keys of a stretch; return how many they were."""
        taken = _keys(self, low, high, after)
        for key in taken:
            del self.table[key]
        return len(taken)

    def fill(self, value, low, high, *, after=None):
        """Give the keys of a stretch a value; return how many they are."""
        check_value(value)
        filled = _keys(self, low, high, after)
        for key in filled:
            self.table[key] = value
        return len(filled)

    def copied(self):
        """Return a new equal store."""
        return Store(self.letters, list(self.table.items()))

    def trial(self):
        """Return a context manager behind which keys and values are as before."""
        return Trial(self)

    def within(self, work):
        """Return what some work on the store returns, and leave the store as before."""
        with self.trial() as store:
            return work(store)


class Trial:
    """A block behind which a store is as it was."""

    def __init__(self, store):
        self.store = store
        self.table = {}

    def __enter__(self):
        self.table = dict(self.store.table)
        return self.store

    def __exit__(self, kind, value, trace):
        self.store.table = self.table


def check_value(value):
    """Raise NoValue if a value is no integer from 0."""
    if not is_number(value) or value < 0:
        raise NoValue(value)


def _keys(store, low, high, after):
    """Return the keys of a stretch, ascending."""
    return sorted([
        str(key) for key in store.table
        if low <= key and (high is None or key < high) and (after is None or key > after)
    ])
