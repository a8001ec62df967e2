"""Whether two programs do the same for all names and stores."""

from undername.fields import Ground, field_of, names_meant
from undername.machines import least_table
from undername.names import Names
from undername.parts import check_parts, check_same, cores_of, parts_within
from undername.scripts import AGAIN, COMPARE, must_steps, rows_steps
from undername.searches import is_come_to, least_found
from undername.stores import Store


def alike(p, q, *, names=None, where=(), answers=True, store=True):
    """Tell whether both programs have the same outcome for every name and store meant."""
    return are_alike_on(ground_of(p, q, names, where), p, q, where, answers, store)


def least_parting(p, q, *, names=None, where=(), answers=True, store=True):
    """Return the least name and store meant for which the outcomes are not the same, or None."""
    ground = ground_of(p, q, names, where)
    for name in names_meant(ground):
        field = field_of(ground, name)
        found = least_pair(field, parting_steps(field, p, q, where, answers, store))
        if found is not None:
            return found
    return None


def parting_names(p, q, *, names=None, where=(), answers=True, store=True):
    """Return the set of the names with a store meant for which the outcomes are not the same."""
    ground = ground_of(p, q, names, where)
    parts = []
    for name in ground.meant:
        field = None if name is None else field_of(ground, name)
        parts.append(field is not None and is_come_to(field, parting_steps(field, p, q, where, answers, store)))
    labels = [parts[number] for number, _ in ground.table]
    found = Names(p.letters, least_table(labels, [way for _, way in ground.table]))
    return found if names is None else found & names


def are_alike_on(ground, p, q, where, answers, store):
    """Tell whether both programs have the same outcome for every name and store meant by a ground."""
    for name in names_meant(ground):
        field = field_of(ground, name)
        if is_come_to(field, parting_steps(field, p, q, where, answers, store)):
            return False
    return True


def ground_of(p, q, names, where):
    """Return the ground of two programs; raise Mismatch if letters differ."""
    check_same(p.letters, q.letters)
    parts = checked_parts(p.letters, names, where)
    return Ground(p.letters, parts_within(p.rows) + parts_within(q.rows) + parts, p.pages + q.pages + 2, names)


def checked_parts(letters, names, tests):
    """Return the parts of tests; raise Mismatch if letters of them or of the names differ."""
    if names is not None:
        check_same(letters, names.letters)
    parts = cores_of(tests)
    check_parts(letters, parts)
    return parts


def parting_steps(field, p, q, where, answers, store):
    """Return the script that looks for different outcomes of two programs."""
    return must_steps(field, where) + programs_steps(field, p, q, answers, store)


def programs_steps(field, p, q, answers, store):
    """Return the script that does two programs and compares their outcomes."""
    again = ((AGAIN,),)
    return rows_steps(field, p.rows) + again + rows_steps(field, q.rows) + again + ((COMPARE, answers, store),)


def least_pair(field, steps):
    """Return the name of a field with the least store for which a script comes to what is looked for, or None."""
    found = least_found(field, steps)
    if found is None:
        return None
    _, texts, values = found
    return field.asked, Store(field.letters, list(zip(texts, values)))
