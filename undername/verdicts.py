"""Verdicts: whether a trail at its end has come to what is looked for.

A verdict is a tuple of pairs of values: it is come to where one pair differs. It
is NEVER (no pair), where nothing can differ, and ALWAYS has a pair that does.
"""

from undername.facts import are_same, is_told
from undername.scripts import ALWAYS, COUNT, DIFFER, LIST, PAGE, TELL
from undername.trails import GONE, KEPT, mark_at, paired


def verdict(trail, facts):
    """Return the pairs of values that may still differ, by what is told."""
    step = trail.steps[0]
    if step[0] == DIFFER:
        return _open_pairs(facts, step[1])
    _, answers, store = step
    (one_answers, one_states), (other_answers, other_states) = trail.ended
    pairs = ()
    if store:
        pairs = _state_pairs(facts, one_states, other_states)
    if answers:
        pairs = pairs + _answers_pairs(facts, one_answers, other_answers)
    return _open_pairs(facts, pairs)


def _open_pairs(facts, pairs):
    found = []
    for one, other in pairs:
        answer = are_same(facts, one, other)
        if answer is False:
            return ALWAYS
        if answer is None:
            found.append((one, other))
    return tuple(found)


def _state_pairs(facts, ones, others):
    pairs = ()
    for spot, (one, other) in enumerate(zip(ones, others)):
        if one != other:
            pairs = pairs + _listed_pairs(facts, [(spot, 1, one)], [(spot, 1, other)])
    return pairs


def _answers_pairs(facts, ones, others):
    if [word for word, _ in ones] != [word for word, _ in others]:
        return ALWAYS
    pairs = ()
    for (word, one), (_, other) in zip(ones, others):
        if one != other:
            pairs = pairs + _answer_pairs(facts, word, one, other)
    return pairs


def _answer_pairs(facts, word, one, other):
    if word == TELL:
        return ALWAYS if one is None or other is None else ((one, other),)
    if word == LIST:
        return _listed_pairs(facts, one, other)
    if word == COUNT:
        return () if _counted(facts, one) == _counted(facts, other) else ALWAYS
    if word == PAGE:
        return paired(one, other)
    if one is None or other is None:
        return ALWAYS
    return paired([_settled(facts, one)], [_settled(facts, other)])


def _settled(facts, key):
    """Return the last key of a gap with its place, if it is told."""
    spot, place, value = key
    if place > 0 or not is_told(facts, spot):
        return key
    last = facts.lows[spot]
    return spot, last, (spot, last) if value == (spot, 0) else value


def _listed_pairs(facts, ones, others):
    left, right = _listed(facts, ones), _listed(facts, others)
    if _wholes(facts, ones) != _wholes(facts, others):
        return ALWAYS
    return paired(left, right)


def _listed(facts, states):
    """Return the keys that are told to be there, as tuples (spot, place, value)."""
    found = []
    for spot, first, state in states:
        if state[0] is not None:
            found.append((spot, 1, state[0]))
        else:
            for place in range(first, facts.lows[spot] + 1):
                mark = mark_at(state, place)
                if mark != GONE:
                    found.append((spot, place, (spot, place) if mark == KEPT else mark))
    return found


def _wholes(facts, states):
    """Return the spots that may have more keys, with the marks of these."""
    return [
        (spot, rest) for spot, _, (_, _, rest) in states
        if rest != GONE and not is_told(facts, spot)
    ]


def _counted(facts, states):
    return len(_listed(facts, states)), [spot for spot, _ in _wholes(facts, states)]
