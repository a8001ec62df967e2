"""Runs of programs for a name, on a store."""

from undername.errors import NoText
from undername.made import filled
from undername.parts import check_parts, check_same, core_of, cores_of
from undername.rows import Change, Copy, Count, Fill, Found, If, Is, Keep, Last, List, Put, Same, Tell, There
from undername.texts import is_text


class Outcome:
    """The answers of a run, and the store at its end."""

    def __init__(self, answers, store):
        self.answers = answers
        self.store = store

    def __eq__(self, other):
        return isinstance(other, Outcome) and self.answers == other.answers and self.store == other.store


class Progress:
    """What a run has come to: the store, what the finds hold, and the answers."""

    def __init__(self, asked, store):
        self.asked = asked
        self.store = store
        self.finds = {}
        self.answers = []


def run(program, name, store):
    """Return the outcome of a program for a name, on a copy of a store."""
    if not is_text(program.letters, name):
        raise NoText(name)
    check_same(program.letters, store.letters)
    progress = Progress(name, store.copied())
    _do_rows(progress, program.rows)
    return Outcome(tuple(progress.answers), progress.store)


def holds(test, letters, name, store):
    """Tell whether a test holds, with finds that hold nothing."""
    check_parts(letters, cores_of([test]))
    return _is_met(Progress(name, store), test)


def _do_rows(progress, rows):
    for row in rows:
        if isinstance(row, If):
            _do_rows(progress, row.rows if _is_met(progress, row.test) else row.others)
        elif isinstance(row, Change):
            _change(progress, row)
        else:
            progress.answers.append(_answer(progress, row))


def _change(progress, row):
    store = progress.store
    if isinstance(row, Put):
        store[_key_at(progress, row.key)] = row.value
    elif isinstance(row, Copy):
        value = _value_at(progress, row.source)
        if value is not None:
            store[_key_at(progress, row.key)] = value
    elif isinstance(row, Keep):
        outside = ~row.zone
        for low, high in outside(progress.asked):
            store.take(low, high)
    else:
        after = _found(progress, row.after)
        for low, high in _stretches_of(progress, row):
            if isinstance(row, Fill):
                store.fill(row.value, low, high, after=after)
            else:
                store.take(low, high, after=after)


def _answer(progress, row):
    if isinstance(row, Tell):
        return "tell", _value_at(progress, row.key)
    pairs = _pairs_of(progress, row)
    if isinstance(row, List):
        return "list", tuple(pairs)
    if isinstance(row, Count):
        return "count", len(pairs)
    if isinstance(row, Last):
        return "last", pairs[-1] if pairs else None
    return _page(progress, row, pairs)


def _page(progress, row, pairs):
    answered = tuple(pairs[:row.count])
    progress.finds[row.found] = answered[-1][0] if answered else None
    return "page", answered


def _is_met(progress, test):
    core, wanted = core_of(test)
    return _core_is_met(progress, core) == wanted


def _core_is_met(progress, test):
    if isinstance(test, There):
        return _value_at(progress, test.key) is not None
    if isinstance(test, Is):
        return _value_at(progress, test.key) == test.value
    if isinstance(test, Same):
        value = _value_at(progress, test.key)
        return value is not None and value == _value_at(progress, test.other)
    if isinstance(test, Found):
        return _found(progress, test.found) is not None
    return len(_pairs_of(progress, test)) > 0


def _key_at(progress, made):
    return filled(made, progress.asked)


def _value_at(progress, made):
    """Return the value of a key, or None if it is not there."""
    key = _key_at(progress, made)
    return progress.store[key] if key in progress.store else None


def _found(progress, found):
    """Return the key that a find holds, or None."""
    return progress.finds.get(found)


def _stretches_of(progress, part):
    """Return the stretches of the zone of a row or a test; none behind a find that holds nothing."""
    if part.after is not None and _found(progress, part.after) is None:
        return ()
    zone = part.zone
    return zone(progress.asked)


def _pairs_of(progress, part):
    """Return the keys of a row or a test with their values, ascending."""
    after = _found(progress, part.after)
    stretches = _stretches_of(progress, part)
    return [pair for low, high in stretches for pair in progress.store.pairs(low, high, after=after)]
