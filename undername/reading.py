"""The rows of a program from its text."""

from undername.errors import InvalidProgram, InvalidZone
from undername.rows import (
    MOST_COUNT,
    Copy,
    Count,
    Fill,
    Found,
    If,
    Is,
    Keep,
    Last,
    List,
    Not,
    Page,
    Put,
    Same,
    Some,
    Take,
    Tell,
    There,
    is_find,
)
from undername.steps import made_of_word
from undername.zones import Zone

DIGITS = "0123456789"
MOST_DIGITS = 18
IF = "if "
NOT = "not "
AFTER = "after"


def read_rows(letters, text):
    """Return the rows of the text of a program."""
    rows = []
    # For each block that has no end yet: the rows around it, its test, and its
    # rows if those behind an else are read.
    blocks = []
    lines = text.split("\n") if text else []
    for at, line in enumerate(lines):
        if line == "else":
            if not blocks or blocks[-1][2] is not None:
                raise InvalidProgram(at)
            around, test, _ = blocks.pop()
            blocks.append((around, test, rows))
            rows = []
        elif line == "end":
            if not blocks:
                raise InvalidProgram(at)
            around, test, first = blocks.pop()
            around.append(If(test, rows) if first is None else If(test, first, rows))
            rows = around
        elif line.startswith(IF):
            blocks.append((rows, _part_at(letters, at, line), None))
            rows = []
        else:
            rows.append(_part_at(letters, at, line))
    if blocks:
        raise InvalidProgram(len(lines))
    return rows


def _part_at(letters, at, line):
    """Return the row of a line, or the test of an if."""
    try:
        part = _test_of(letters, line[len(IF):]) if line.startswith(IF) else _row_of(letters, line)
    except InvalidZone as e:
        raise InvalidProgram(at) from e
    if part is None:
        raise InvalidProgram(at)
    return part


def _row_of(letters, line):
    """Return the row of a line, or None."""
    word, _, rest = line.partition(" ")
    words = rest.split(" ")
    mades = [made_of_word(letters, some) for some in words]
    if word == "put" and len(words) == 2 and mades[0] is not None:
        value = _value_of(words[1])
        return None if value is None else Put(mades[0], value)
    if word == "copy" and len(words) == 2 and None not in mades:
        return Copy(mades[0], mades[1])
    if word == "tell" and len(words) == 1 and mades[0] is not None:
        return Tell(mades[0])
    if word == "fill":
        return _fill_of(letters, rest)
    if word == "page":
        return _page_of(letters, rest)
    return _zoned_of(letters, word, rest)


def _zoned_of(letters, word, rest):
    if word == "keep":
        return Keep(Zone.read(letters, rest))
    if word not in ("take", "list", "count", "last"):
        return None
    zone, after = _zone_of(letters, rest)
    if word == "take":
        return Take(zone, after)
    if word == "list":
        return List(zone, after)
    return Count(zone, after) if word == "count" else Last(zone, after)


def _fill_of(letters, text):
    word, _, rest = text.partition(" ")
    value = _value_of(word)
    if value is None:
        return None
    zone, after = _zone_of(letters, rest)
    return Fill(zone, value, after)


def _page_of(letters, text):
    word, _, rest = text.partition(" ")
    found, _, rest = rest.partition(" ")
    if len(word) != 1 or word not in DIGITS or not 1 <= int(word) <= MOST_COUNT or not is_find(found):
        return None
    zone, after = _zone_of(letters, rest)
    return Page(zone, int(word), found, after)


def _test_of(letters, text):
    """Return the test of a text, or None."""
    core = text
    # Texts may have hundreds of Nots, so they are no calls within calls.
    nots = 0
    while core.startswith(NOT):
        core = core[len(NOT):]
        nots += 1
    test = _core_of(letters, core)
    for _ in range(nots if test is not None else 0):
        test = Not(test)
    return test


def _core_of(letters, text):
    word, _, rest = text.partition(" ")
    words = rest.split(" ")
    mades = [made_of_word(letters, some) for some in words]
    if word == "there" and len(words) == 1 and mades[0] is not None:
        return There(mades[0])
    if word == "is" and len(words) == 2 and mades[0] is not None:
        value = _value_of(words[1])
        return None if value is None else Is(mades[0], value)
    if word == "same" and len(words) == 2 and None not in mades:
        return Same(mades[0], mades[1])
    if word == "found" and is_find(rest):
        return Found(rest)
    if word == "some":
        zone, after = _zone_of(letters, rest)
        return Some(zone, after)
    return None


def _value_of(word):
    """Return the value that a word writes, or None."""
    if not 1 <= len(word) <= MOST_DIGITS or not all([digit in DIGITS for digit in word]):
        return None
    return None if word[0] == "0" and word != "0" else int(word)


def _zone_of(letters, text):
    """Return the zone of a text, and the find behind it or None."""
    words = text.split(" ")
    # No text of a zone ends in such words, even if made texts are called after.
    if len(words) > 2 and words[-2] == AFTER and is_find(words[-1]):
        return Zone.read(letters, " ".join(words[:-2])), words[-1]
    return Zone.read(letters, text), None
