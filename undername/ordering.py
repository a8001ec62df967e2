"""The machine that tells for each name which order some bounds have."""

from undername.bounds import check_bound
from undername.machines import joined, least_names, least_table, numbered
from undername.made import struck, word_of
from undername.texts import room
from undername.tracks import letter_at, most_fixed, place_behind, track_of

# Where a name stands towards the word of two made texts. The further items of a
# spot: how far it runs along the word; where it left the word, which letter it
# took instead and what followed; on which side it left it for good.
ALONG = 0
LEFT = 1
OFF = 2


def check_bounds(letters, bounds):
    """Raise Mismatch if a fixed letter of a bound is not among the letters."""
    for bound in bounds:
        check_bound(letters, bound)


def order_at(letters, bounds, name, most):
    """Return the ranks of the bounds for a name, and the rooms between their places."""
    places = [bound.placed(letters, name) for bound in bounds]
    texts = sorted(set([str(place) for place in places if place is not None]))
    ranks = tuple([len(texts) if place is None else texts.index(place) for place in places])
    ends = texts[1:] + [None] if None in places else texts[1:]
    return ranks, tuple([room_up_to(letters, low, high, most) for low, high in zip(texts, ends)])


def room_up_to(letters, low, high, most):
    """Return the room from a text up to another one, at most so much."""
    many = room(letters, low, high)
    return most if many is None or many > most else many


def told_table(letters, bounds, most):
    """Return the told names, and the table that gives each name the number of its told one."""
    table = _order_table(letters, bounds, most)
    numbers = numbered([label for label, _ in table])
    told = []
    # States are numbered by their least names, so each told name comes first.
    for name, number in zip(least_names(letters, table), numbers):
        if number == len(told):
            told.append(name)
    return told, tuple([(number, way) for number, (_, way) in zip(numbers, table)])


def _order_table(letters, bounds, most):
    """Return the table that gives two names the same label if the bounds have the same order."""
    # The orders of the bounds of each two made texts tell the order of all bounds.
    table = ((0, tuple([0 for _ in letters])),)
    for one, other in _pairs([bound.made for bound in bounds if bound.made is not None]):
        some = [bound for bound in bounds if bound.made is None or bound.made == one or bound.made == other]
        labels, ways = joined(table, _table_of_two(letters, one, other, some, most))
        table = least_table(numbered(labels), ways)
    return table


def _pairs(mades):
    """Return each two different made texts; one with itself if there is no other one."""
    by_text = {made.text: made for made in mades}
    different = list(by_text.values())
    if len(different) == 1:
        return [(different[0], different[0])]
    return [(one, other) for at, one in enumerate(different) for other in different[at + 1:]]


def _table_of_two(letters, one, other, bounds, most):
    """Return the table of the orders of bounds of two made texts."""
    # A state is all that the order can depend on: how the name stands towards
    # the word, and what tail it is itself. Its least name tells the order.
    track = _track(one, other, most)
    start = ((OFF, 0) if track is None else (ALONG, 0), 0)
    met = [start]
    numbers = {start: 0}
    names = [""]
    ways = []
    while len(ways) < len(met):
        spot, tail = met[len(ways)]
        name = names[len(ways)]
        way = []
        for letter in letters:
            state = (_next_spot(letters, track, most, spot, letter), _next_tail(letters, most, tail, letter))
            if state not in numbers:
                numbers[state] = len(met)
                met.append(state)
                names.append(name + letter)
            way.append(numbers[state])
        ways.append(tuple(way))
    return least_table(numbered([order_at(letters, bounds, name, most) for name in names]), ways)


def _track(one, other, most):
    """Return the track of two made texts, or None if they have no word."""
    word = word_of(one, other)
    if word is None:
        return None
    if word in struck(one, other):
        # The other text ends behind its word, so the name does not go around.
        return word, len(word), 0
    # So far along the word a name outruns what fixed letters can push the texts
    # apart, goes around once more, and has more letters than rooms are counted;
    # from there on only its last turn tells the order.
    return track_of(word, 2 * len(word) + most_fixed(one, other) + most + 5)


def _next_spot(letters, track, most, spot, letter):
    """Return the spot one letter further."""
    if spot[0] == OFF:
        return spot
    if spot[0] == LEFT:
        _, place, side, tail = spot
        return LEFT, place, side, _next_tail(letters, most, tail, letter)
    _, place = spot
    _, far, turn = track
    if turn == 0 and place == far:
        return LEFT, place, 0, _next_tail(letters, most, 0, letter)
    side = letters.index(letter) - letters.index(letter_at(track, place))
    if side == 0:
        return ALONG, place_behind(track, place)
    if side not in (-1, 1):
        # There are endlessly many texts between letters that are not neighbours.
        return OFF, 1 if side > 0 else -1
    return LEFT, place if turn == 0 else place % turn, side, 0


def _next_tail(letters, most, tail, letter):
    """Return the tail one letter further.

    A tail is the number of letters if all are least ones (the greatest such
    number stands for more ones, too), else whether all are greatest ones.
    """
    many = most + 3
    if letter == letters[0] and tail <= many:
        return min(many, int(tail + 1))
    if letter == letters[-1] and tail in (0, many + 1):
        return many + 1
    return many + 2
