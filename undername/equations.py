"""For which names one made text stands to another in some way, or is the same."""

from undername.made import check_among, relation, word_of
from undername.machines import least_table
from undername.names import Names
from undername.tracks import letter_at, most_fixed, name_along, place_behind, places_of, track_of

SAME = "same"


def names_where(letters, one, other, words):
    """Return the set of the names for which the relation is one of the words."""
    check_among(letters, one)
    check_among(letters, other)
    word = word_of(one, other)
    if word is None:
        # Where no name meets fixed letters, all but the empty one do the same.
        labels = [relation(one, other, name) in words for name in ("", letters[0])]
        return Names(letters, least_table(labels, [tuple([1 for _ in letters])] * 2))
    return Names(letters, _table_along(letters, one, other, words))


def _track(one, other):
    """Return the track of two made texts that have a word."""
    # A name that lies on the word so far outruns what fixed letters can push the
    # texts apart, so from there on only its last turn tells the relation.
    word = word_of(one, other)
    return track_of(word, len(word) + most_fixed(one, other) + 1)


def _table_along(letters, one, other, words):
    track = _track(one, other)
    many = places_of(track)
    outside, inside = many, many + 1
    labels = []
    ways = []
    for place in range(many):
        name = name_along(track, place)
        labels.append(relation(one, other, name) in words)
        # Where a name leaves the word, the relation is told for good.
        ways.append(tuple([
            place_behind(track, place) if letter == letter_at(track, place)
            else inside if relation(one, other, name + letter) in words
            else outside
            for letter in letters
        ]))
    ways.append(tuple([outside for _ in letters]))
    ways.append(tuple([inside for _ in letters]))
    return least_table(labels + [False, True], ways)


def solved(letters, one, other):
    """Return None if the texts are equal, else the solutions apart and their endless family."""
    check_among(letters, one)
    check_among(letters, other)
    if one == other:
        return None
    if word_of(one, other) is None:
        # Made texts that differ by nothing but marks are the same for no other name.
        return ("",) if relation(one, other, "") == SAME else (), None
    track = _track(one, other)
    _, far, turn = track
    # A solution lies on the word; these are the sizes of all, up to turns.
    sizes = [size for size in range(places_of(track)) if relation(one, other, name_along(track, size)) == SAME]
    endless = [size for size in sizes if size >= far]
    if not endless:
        return tuple([name_along(track, size) for size in sizes]), None
    # There is one endless family at most.
    first = endless[0]
    while first - turn in sizes:
        first = first - turn
    apart = [size for size in sizes if size < first or (size - first) % turn != 0]
    family = (name_along(track, turn), name_along(track, first % turn), first // turn)
    return tuple([name_along(track, size) for size in apart]), family
