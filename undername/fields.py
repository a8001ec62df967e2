"""Fields: what some bounds make of all texts for a name, and what is meant of them.

A spot is a stretch between two neighbouring places of bounds. Spots are numbered
from 0, ascending. Each is a made key, one text that the made text of a key
becomes, or a gap, which holds none of these.
"""

from undername.machines import joined, least_names
from undername.made import Made, filled
from undername.ordering import room_up_to, told_table
from undername.parts import bounds_of_parts, key_texts_of
from undername.texts import name_at, number_of


class Field:
    """The spots for a name: where each begins, and how many keys of each are told apart."""

    def __init__(self, letters, bounds, key_texts, asked, most):
        places = [bound.placed(letters, asked) for bound in bounds]
        made_keys = [filled(Made(text), asked) for text in key_texts]
        lows = sorted(set([str(place) for place in places if place is not None]))
        self.letters = letters
        self.asked = asked
        self.lows = tuple(lows)
        self.is_key = tuple([low in made_keys for low in lows])
        self.most = tuple([
            1 if low in made_keys else room_up_to(letters, low, high, most)
            for low, high in zip(lows, lows[1:] + [None])
        ])


def key_spot(field, made):
    """Return the spot of the key that a made text becomes."""
    return field.lows.index(filled(made, field.asked))


def zone_spots(field, zone):
    """Return the spots of a zone, ascending."""
    stretches = zone(field.asked)
    return tuple([spot for spot, low in enumerate(field.lows) if _is_in(stretches, low)])


def _is_in(stretches, text):
    return any([low <= text and (high is None or text < high) for low, high in stretches])


class Ground:
    """The names that stand for all names meant, for the bounds of some rows and tests."""

    def __init__(self, letters, parts, most, names):
        self.letters = letters
        self.bounds = tuple(bounds_of_parts(parts))
        self.key_texts = tuple(key_texts_of(parts))
        self.most = most
        told, table = told_table(letters, self.bounds, most)
        self.told = tuple(told)
        self.table = table
        self.meant = tuple(told if names is None else _least_meant(letters, told, table, names))


def _least_meant(letters, told, table, names):
    """Return for each told name the least name meant of its class, or None."""
    labels, ways = joined(table, names.table)
    found = [None for _ in told]
    # States are numbered by their least names, so the first one found is the least.
    for (number, is_in), least in zip(labels, least_names(letters, list(zip(labels, ways)))):
        if is_in and found[number] is None:
            found[number] = least
    return found


def field_of(ground, asked):
    """Return the field of a name."""
    return Field(ground.letters, ground.bounds, ground.key_texts, asked, ground.most)


def names_meant(ground):
    """Return the least names meant, one for each class that has some, ascending."""
    # The least names meant of classes are not in the order of the told names.
    numbers = sorted([int(number_of(ground.letters, name)) for name in ground.meant if name is not None])
    return [name_at(ground.letters, number) for number in numbers]
