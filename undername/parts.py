"""The parts of programs: their rows and tests, and the made texts and zones in them."""

from undername.bounds import BEHIND, END, FROM, Bound
from undername.errors import Mismatch
from undername.made import Made, check_among
from undername.rows import Copy, If, Is, Not, Page, Put, Same, Some, Tell, There, Zoned


def rows_within(rows):
    """Return rows and all rows within them, in the order of their lines."""
    found = []
    for row in rows:
        found.append(row)
        if isinstance(row, If):
            found.extend(rows_within([*row.rows, *row.others]))
    return found


def core_of(test):
    """Return the test within all Nots, and whether it has to hold for the test to hold."""
    core = test
    wanted = True
    while isinstance(core, Not):
        core = core.test
        wanted = not wanted
    return core, wanted


def parts_within(rows):
    """Return all rows within rows, and the tests of their blocks without Nots."""
    inner = rows_within(rows)
    return inner + cores_of([row.test for row in inner if isinstance(row, If)])


def cores_of(tests):
    """Return the tests without their Nots."""
    return [core_of(test)[0] for test in tests]


def _mades_of(part):
    if isinstance(part, Copy):
        return [part.key, part.source]
    if isinstance(part, Same):
        return [part.key, part.other]
    if isinstance(part, (Put, Tell, There, Is)):
        return [part.key]
    return []


def _zones_of(parts):
    return [part.zone for part in parts if isinstance(part, (Zoned, Some))]


def check_parts(letters, parts):
    """Raise Mismatch if a made text or a zone of the parts is over other letters."""
    for part in parts:
        for made in _mades_of(part):
            check_among(letters, made)
    for zone in _zones_of(parts):
        check_same(letters, zone.letters)


def check_same(letters, others):
    """Raise Mismatch if letters are not the same."""
    if letters != others:
        raise Mismatch()


def key_texts_of(parts):
    """Return the different texts of the made texts of keys, ascending."""
    return sorted(set([str(made.text) for part in parts for made in _mades_of(part)]))


def bounds_of_parts(parts):
    """Return the different bounds of all texts, of keys and of zones, ascending by their texts."""
    mades = [Made(text) for text in key_texts_of(parts)]
    # Operators may not call class methods.
    bounds = [Bound(FROM, Made()), Bound(END)]
    bounds.extend([Bound(kind, made) for kind in (FROM, BEHIND) for made in mades])
    bounds.extend([bound for zone in _zones_of(parts) for bound in zone.bounds])
    by_text = dict([(str(bound), bound) for bound in bounds])
    return [by_text[text] for text in sorted([str(key) for key in by_text])]


def pages_of(rows):
    """Return the greatest number of keys that the pages of rows can answer in one run."""
    return sum([_pages_of_row(row) for row in rows])


def _pages_of_row(row):
    if isinstance(row, Page):
        return row.count
    if isinstance(row, If):
        return max(int(pages_of(row.rows)), int(pages_of(row.others)))
    return 0
