"""Facts: what is told of the store at the start, spot by spot.

A value is a number, or the pair of a spot and a place that stands for the value
which this key of the spot has at the start; places are counted from 1. A place 0
is that of the last key of a gap.
"""

MANY = "many"
EQUAL = "equal"


class OpenQuestion(Exception):
    """What is told does not answer a question.

    The question is (MANY, spot, 0): whether the spot has more keys than are told; or
    (EQUAL, value, other): whether the two values are the same.
    """

    def __init__(self, question):
        self.question = question


class Facts:
    """How many keys each spot has at least and at most, and which values are the same."""

    def __init__(self, lows, highs, known, apart):
        self.lows = lows
        self.highs = highs
        # What a value of a key is known to be the same as, and the pairs of
        # values that are different.
        self.known = known
        self.apart = apart


def no_facts(field):
    """Return what is told at first."""
    return Facts(tuple([0 for _ in field.most]), field.most, {}, ())


def is_told(facts, spot):
    """Tell whether it is told how many keys a spot has."""
    return facts.lows[spot] == facts.highs[spot]


def sized(facts, spot, low, high):
    """Return the facts with a spot that has so many keys at least and at most."""
    lows = list(facts.lows)
    highs = list(facts.highs)
    lows[spot] = low
    highs[spot] = high
    return Facts(tuple(lows), tuple(highs), facts.known, facts.apart)


def closed(facts):
    """Return the facts with no more keys than are told."""
    return Facts(facts.lows, facts.lows, facts.known, facts.apart)


def are_same(facts, one, other):
    """Return whether two values are told to be the same, or None if neither is told."""
    first = facts.known.get(one, one)
    second = facts.known.get(other, other)
    if first == second:
        return True
    if isinstance(first, int) and isinstance(second, int):
        return False
    roots = [(facts.known.get(left, left), facts.known.get(right, right)) for left, right in facts.apart]
    return False if (first, second) in roots or (second, first) in roots else None


def made_same(facts, one, other):
    """Return the facts with two values that are the same."""
    stays = facts.known.get(one, one)
    goes = facts.known.get(other, other)
    if isinstance(goes, int):
        stays, goes = goes, stays
    known = {value: stays if root == goes else root for value, root in facts.known.items()}
    if stays != goes:
        known[goes] = stays
    return Facts(facts.lows, facts.highs, known, facts.apart)


def made_apart(facts, one, other):
    """Return the facts with two values that are different."""
    return Facts(facts.lows, facts.highs, facts.known, (*facts.apart, (one, other)))


def answers_to(facts, question):
    """Return the facts for each answer to a question."""
    word, one, other = question
    if word == MANY:
        low = facts.lows[one]
        return [sized(facts, one, low, low), sized(facts, one, low + 1, facts.highs[one])]
    return [made_same(facts, one, other), made_apart(facts, one, other)]
