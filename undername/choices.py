"""Which rows of a program can run, and which do nothing; which conditions it keeps."""

from undername.alike import are_alike_on, checked_parts, least_pair
from undername.fields import Ground, field_of, names_meant, zone_spots
from undername.parts import check_same, parts_within, rows_within
from undername.programs import Program
from undername.rows import Some
from undername.scripts import BREAKS, DIFFER, FAULTS, NEVER, must_steps, rows_steps, test_step


def can_run(program, *, names=None, where=()):
    """Return the pairs of each row that can run and the least name and store for which it does."""
    ground = _ground(program, [], names, where)
    found = []
    for at in range(len(program)):
        pair = _least_with_row(ground, program, at, where)
        if pair is not None:
            found.append((at, pair))
    return tuple(found)


def _least_with_row(ground, program, at, where):
    for name in names_meant(ground):
        field = field_of(ground, name)
        steps = must_steps(field, where) + rows_steps(field, program.rows, at) + ((DIFFER, NEVER),)
        found = least_pair(field, steps)
        if found is not None:
            return found
    return None


def idle_rows(program, *, names=None, where=(), answers=True, store=True):
    """Return the numbers of the rows without which, each alone, the program does the same."""
    ground = _ground(program, [], names, where)
    return tuple([
        at for at in range(len(program))
        if are_alike_on(ground, program, program.without(at), where, answers, store)
    ])


def fewest_rows(program, *, names=None, where=(), answers=True, store=True):
    """Return the program of the fewest rows of a program that does the same."""
    ground = _ground(program, [], names, where)
    choices = _choices(0, len(program.rows))
    for many in range(len(program)):
        for kept in choices:
            rows = [program.rows[at] for at in kept]
            if len(rows_within(rows)) == many:
                fewer = Program(program.letters, rows)
                if are_alike_on(ground, program, fewer, where, answers, store):
                    return fewer
    return program


def _choices(first, many):
    """Return the ascending tuples of numbers from a first one up to many, ascending."""
    found = [()]
    for at in range(first, many):
        found.extend([(at, *further) for further in _choices(at + 1, many)])
    return found


def broken(program, tests, *, names=None, where=()):
    """Return the least name and store for which tests hold, but not all of them behind the run, or None."""
    ground = _ground(program, tests, names, where)
    for name in names_meant(ground):
        field = field_of(ground, name)
        conditions = tuple([test_step(field, test) for test in tests])
        steps = must_steps(field, where) + must_steps(field, tests) + rows_steps(field, program.rows)
        found = least_pair(field, steps + ((BREAKS, conditions),))
        if found is not None:
            return found
    return None


def page_fault(program, zone, *, names=None, where=()):
    """Return the least name and store for which pages do not answer the first keys of a zone, or None."""
    check_same(program.letters, zone.letters)
    ground = _ground(program, [Some(zone)], names, where)
    for name in names_meant(ground):
        field = field_of(ground, name)
        steps = must_steps(field, where) + rows_steps(field, program.rows)
        found = least_pair(field, steps + ((FAULTS, zone_spots(field, zone)),))
        if found is not None:
            return found
    return None


def _ground(program, tests, names, where):
    """Return the ground of a program and of tests; raise Mismatch if letters differ."""
    letters = program.letters
    parts = parts_within(program.rows) + checked_parts(letters, names, tests) + checked_parts(letters, names, where)
    # Two programs of some of its rows have pages of so many keys at most.
    return Ground(letters, parts, 2 * program.pages + 2, names)
