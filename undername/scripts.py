"""Scripts: programs for the spots of a field, as steps.

A step is a tuple that begins with one of the words below. Rows become steps of
spots; further steps tell what is done between programs and what is looked for.
A script ends in a DIFFER or a COMPARE.
"""

from undername.fields import key_spot, zone_spots
from undername.parts import core_of, rows_within
from undername.rows import Copy, Count, Fill, If, Is, Keep, List, Page, Put, Same, Some, Take, Tell, There

PUT = "put"  # spot, value
COPY = "copy"  # spot, spot of the source
TAKE = "take"  # spots, find or None
FILL = "fill"  # spots, find or None, value
TELL = "tell"  # spot
LIST = "list"  # spots, find or None
COUNT = "count"  # spots, find or None
LAST = "last"  # spots, find or None
PAGE = "page"  # spots, find or None, count, find
IF = "if"  # test, steps, other steps
MUST = "must"  # test: else there is nothing to look for
BREAKS = "breaks"  # tests: whether one of them does not hold
FAULTS = "faults"  # spots: whether the pages are not their first keys at the start
AGAIN = "again"  # the next program begins at the start
COMPARE = "compare"  # whether answers, and whether stores, of two programs are compared
DIFFER = "differ"  # pairs of values: what is looked for is that one pair differs

NEVER = ()
ALWAYS = ((0, 1),)

THERE = "there"  # spot
IS = "is"  # spot, value
SAME = "same"  # spot, spot
SOME = "some"  # spots, find or None
FOUND = "found"  # find


def rows_steps(field, rows, goal=None, first=0):
    """Return the steps of rows that are numbered from a first number on.

    What is looked for is that the row with the number of the goal is run.
    """
    steps = []
    number = first
    for row in rows:
        steps.append((DIFFER, ALWAYS) if number == goal else _row_step(field, row, goal, number))
        number = number + len(rows_within([row]))
    return tuple(steps)


def _row_step(field, row, goal, number):
    if isinstance(row, If):
        behind = number + 1 + len(rows_within(row.rows))
        steps = rows_steps(field, row.rows, goal, number + 1)
        return IF, test_step(field, row.test), steps, rows_steps(field, row.others, goal, behind)
    if isinstance(row, Put):
        return PUT, key_spot(field, row.key), row.value
    if isinstance(row, Copy):
        return COPY, key_spot(field, row.key), key_spot(field, row.source)
    if isinstance(row, Tell):
        return TELL, key_spot(field, row.key)
    spots = zone_spots(field, row.zone)
    if isinstance(row, Keep):
        return TAKE, tuple([spot for spot in range(len(field.lows)) if spot not in spots]), None
    if isinstance(row, Take):
        return TAKE, spots, row.after
    if isinstance(row, Fill):
        return FILL, spots, row.after, row.value
    if isinstance(row, Page):
        return PAGE, spots, row.after, row.count, row.found
    return _asking_word(row), spots, row.after


def _asking_word(row):
    if isinstance(row, List):
        return LIST
    return COUNT if isinstance(row, Count) else LAST


def test_step(field, test):
    """Return a test as (whether its core has to hold, the core)."""
    core, wanted = core_of(test)
    return wanted, _core_step(field, core)


def _core_step(field, test):
    if isinstance(test, There):
        return THERE, key_spot(field, test.key)
    if isinstance(test, Is):
        return IS, key_spot(field, test.key), test.value
    if isinstance(test, Same):
        return SAME, key_spot(field, test.key), key_spot(field, test.other)
    if isinstance(test, Some):
        return SOME, zone_spots(field, test.zone), test.after
    return FOUND, test.found


def must_steps(field, tests):
    """Return the steps that go on only where all tests hold."""
    return tuple([(MUST, test_step(field, test)) for test in tests])
