"""The orders that bounds have for the names, and the least name for each."""

from undername.machines import least_table, state_behind
from undername.names import Names
from undername.ordering import check_bounds, order_at, told_table


def order(letters, bounds, name, *, most=1):
    """Return the ranks of the bounds for a name, and the rooms between their places."""
    check_bounds(letters, bounds)
    return order_at(letters, bounds, name, most)


def told_names(letters, bounds, *, most=1):
    """Return the least name of each order that the bounds have for some name."""
    check_bounds(letters, bounds)
    told, _ = told_table(letters, bounds, most)
    return tuple(told)


def told_name(letters, bounds, name, *, most=1):
    """Return the least name for which the bounds have the same order as for a name."""
    check_bounds(letters, bounds)
    told, table = told_table(letters, bounds, most)
    return told[table[state_behind(letters, table, 0, name)][0]]


def classes(letters, bounds, *, most=1):
    """Return the pairs of each told name and the set of the names with its order."""
    check_bounds(letters, bounds)
    told, table = told_table(letters, bounds, most)
    ways = [way for _, way in table]
    return tuple([
        (name, Names(letters, least_table([label == number for label, _ in table], ways)))
        for number, name in enumerate(told)
    ])
