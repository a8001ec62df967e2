"""Zones: sets of keys, one for each name."""

from undername.bounds import Bound, check_bound
from undername.errors import Mismatch, NoText
from undername.machines import least_table
from undername.made import MARK, Made, check_among
from undername.names import Names
from undername.ordering import check_bounds, told_table
from undername.steps import (
    AND,
    EITHER,
    MINUS,
    NOT,
    OR,
    bounds_of,
    everything_step,
    holds_at,
    only_step,
    read_steps,
    sign_step,
    stretch_step,
    stretches_at,
    under_step,
    written,
)
from undername.texts import is_text, raised, room


class Zone:
    """A set of keys for each name; called with a name it gives its stretches."""

    def __init__(self, letters, low, high):
        # Within the package, `low` may also be the steps of a zone: operators
        # set no attributes, so what they make has to come in here.
        self.letters = letters
        self.steps = (stretch_step(low, high),) if isinstance(low, Bound) else low
        self.bounds = tuple(bounds_of(self.steps))
        check_bounds(letters, self.bounds)

    @classmethod
    def under(cls, letters, made):
        return cls(letters, (under_step(made),), None)

    @classmethod
    def only(cls, letters, made):
        return cls(letters, (only_step(made),), None)

    @classmethod
    def everything(cls, letters):
        return cls(letters, (everything_step(),), None)

    @classmethod
    def read(cls, letters, text):
        return cls(letters, read_steps(letters, text), None)

    def __call__(self, name):
        _check_name(self, name)
        return tuple(stretches_at(self.letters, self.steps, name))

    def has(self, name, key):
        """Tell whether any value is a text of the zone for a name."""
        _check_name(self, name)
        return is_text(self.letters, key) and holds_at(self.letters, self.steps, name, key)

    def __str__(self):
        return str(written(self.steps))

    def __and__(self, other):
        if not isinstance(other, Zone):
            return NotImplemented
        return _zone(self.letters, _joined(self, AND, other))

    def __or__(self, other):
        if not isinstance(other, Zone):
            return NotImplemented
        return _zone(self.letters, _joined(self, OR, other))

    def __sub__(self, other):
        if not isinstance(other, Zone):
            return NotImplemented
        return _zone(self.letters, _joined(self, MINUS, other))

    def __xor__(self, other):
        if not isinstance(other, Zone):
            return NotImplemented
        return _zone(self.letters, _joined(self, EITHER, other))

    def __invert__(self):
        return _zone(self.letters, self.steps + (sign_step(NOT),))

    def __eq__(self, other):
        if not isinstance(other, Zone) or self.letters != other.letters:
            return False
        return _least_key(self.letters, _joined(self, EITHER, other)) is None

    def __le__(self, other):
        if not isinstance(other, Zone):
            return NotImplemented
        return _is_within(self, other)

    def __lt__(self, other):
        if not isinstance(other, Zone):
            return NotImplemented
        return _is_within(self, other) and not _is_within(other, self)

    def __ge__(self, other):
        if not isinstance(other, Zone):
            return NotImplemented
        return _is_within(other, self)

    def __gt__(self, other):
        if not isinstance(other, Zone):
            return NotImplemented
        return _is_within(other, self) and not _is_within(self, other)

    def __bool__(self):
        return _least_key(self.letters, self.steps) is not None


def _check_name(zone, name):
    if not is_text(zone.letters, name):
        raise NoText(name)


def _zone(letters, steps):
    return Zone(letters, steps, None)


def _joined(one, sign, other):
    """Return the steps of two zones with a sign."""
    if one.letters != other.letters:
        raise Mismatch()
    return one.steps + other.steps + (sign_step(sign),)


def _told(letters, steps, most):
    """Return the told names, and the table of them, for all that the steps can hold."""
    # A zone may begin before all its bounds and end behind them.
    bounds = bounds_of(steps + (everything_step(),))
    return told_table(letters, bounds, most)


def _least_key(letters, steps):
    """Return the least pair of a name and a key that the steps hold for it, or None."""
    told, _ = _told(letters, steps, 1)
    for name in told:
        stretches = stretches_at(letters, steps, name)
        if stretches:
            return name, stretches[0][0]
    return None


def _is_within(one, other):
    return _least_key(one.letters, _joined(one, MINUS, other)) is None


def _names(letters, table, chosen):
    """Return the set of the names with a chosen number in the table."""
    return Names(letters, least_table([chosen[number] for number, _ in table], [way for _, way in table]))


def names_within(zone, other):
    """Return the set of the names for which each key of the zone is one of the other."""
    steps = _joined(zone, MINUS, other)
    told, table = _told(zone.letters, steps, 1)
    return _names(zone.letters, table, [stretches_at(zone.letters, steps, name) == [] for name in told])


def missed(zone, other):
    """Return the least pair of a name and a key of the zone that the other has not, or None."""
    return _least_key(zone.letters, _joined(zone, MINUS, other))


def names_with_room(zone, many):
    """Return the set of the names for which the zone has at least so many keys."""
    told, table = _told(zone.letters, zone.steps, many)
    return _names(zone.letters, table, [_has_room(zone, name, many) for name in told])


def _has_room(zone, name, many):
    rooms = [room(zone.letters, low, high) for low, high in stretches_at(zone.letters, zone.steps, name)]
    return None in rooms or sum(rooms) >= many


def right_end(letters, made):
    """Return a bound up to which the texts from the made text are those that begin with it, or None."""
    check_among(letters, made)
    head, mark, tail = made.text.rpartition(MARK)
    end = raised(letters, tail)
    if end is not None:
        return Bound.ahead(Made(head + mark + end))
    return None if mark else Bound.end()


def wrong_end(letters, made, bound):
    """Return the least pair of a name and a key that tells a bound from the right end, or None."""
    check_among(letters, made)
    check_bound(letters, bound)
    return _least_key(letters, (stretch_step(Bound.ahead(made), bound), under_step(made), sign_step(EITHER)))
