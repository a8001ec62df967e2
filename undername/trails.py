"""Trails: runs of scripts with what is told of the store at the start.

The state of a spot is a tuple (put, firsts, rest). If put is not None, it is the
value of the made key, which a row has put there, and rest is GONE. Else firsts are
the marks of the first keys that were in the spot at the start, and rest is the mark
of all others: KEPT, GONE, or the value that a row has given them.
"""

from undername.facts import EQUAL, MANY, OpenQuestion, are_same, is_told
from undername.scripts import (
    AGAIN,
    ALWAYS,
    BREAKS,
    COMPARE,
    COPY,
    COUNT,
    DIFFER,
    FAULTS,
    FILL,
    FOUND,
    IF,
    IS,
    LAST,
    LIST,
    MUST,
    NEVER,
    PAGE,
    PUT,
    SAME,
    TAKE,
    TELL,
    THERE,
)

KEPT = "kept"
GONE = "gone"
AT_START = (None, (), KEPT)


class Trail:
    """The steps that are left, and what the run has come to."""

    def __init__(self, steps, states, finds, answers, ended):
        self.steps = steps
        self.states = states
        self.finds = finds
        self.answers = answers
        # The answers and states of the programs that are at their end.
        self.ended = ended


def new_trail(field, steps):
    """Return the trail of a script at its start."""
    return Trail(steps, [AT_START for _ in field.lows], {}, (), ())


def copied_trail(trail):
    """Return a trail that goes its own way from here on."""
    return Trail(trail.steps, list(trail.states), dict(trail.finds), trail.answers, trail.ended)


def is_at_end(trail):
    """Tell whether only what is looked for is left."""
    return trail.steps[0][0] in (DIFFER, COMPARE)


def go_on(trail, facts):
    """Do steps until what is looked for is left; raise OpenQuestion ahead of a step that asks it."""
    while not is_at_end(trail):
        step = trail.steps[0]
        left = trail.steps[1:]
        word = step[0]
        if word == IF:
            _, test, steps, others = step
            left = (steps if holds_in(trail, facts, test) else others) + left
        elif word in (PUT, COPY, TAKE, FILL):
            _change(trail, facts, step)
        elif word in (MUST, BREAKS, FAULTS, AGAIN):
            left = _looked_for(trail, facts, step, left)
        else:
            answer = _answer(trail, facts, step)
            trail.answers = (*trail.answers, answer)
        trail.steps = left


def _looked_for(trail, facts, step, left):
    """Return the steps that are left behind a step that is none of a row."""
    word = step[0]
    if word == MUST:
        return left if holds_in(trail, facts, step[1]) else ((DIFFER, NEVER),)
    if word == BREAKS:
        is_broken = not all([holds_in(trail, facts, test) for test in step[1]])
        return ((DIFFER, ALWAYS if is_broken else NEVER),)
    if word == FAULTS:
        return ((DIFFER, _faults(trail, facts, step[1])),)
    trail.ended = (*trail.ended, (trail.answers, tuple(trail.states)))
    trail.states = [AT_START for _ in trail.states]
    trail.finds = {}
    trail.answers = ()
    return left


def _faults(trail, facts, spots):
    """Return the pairs of values of which one differs where pages are not the first keys at the start."""
    answered = [key for word, page in trail.answers if word == PAGE for key in page]
    states = [AT_START for _ in trail.states]
    return paired(answered, first_keys(states, facts, [(spot, 1) for spot in spots], len(answered)))


def paired(ones, others):
    """Return the pairs of the values of keys, of which one has to differ where the keys with values do."""
    if [(spot, place) for spot, place, _ in ones] != [(spot, place) for spot, place, _ in others]:
        return ALWAYS
    return tuple([(one[2], other[2]) for one, other in zip(ones, others)])


def _change(trail, facts, step):
    word = step[0]
    if word == PUT:
        trail.states[step[1]] = (step[2], (), GONE)
    elif word == COPY:
        _, spot, source = step
        if _is_there(trail, facts, source):
            trail.states[spot] = (_value_in(trail, source), (), GONE)
    else:
        for spot, first in spots_behind(trail, facts, step[1], step[2]):
            state = trail.states[spot]
            trail.states[spot] = _taken(state, first) if word == TAKE else _filled(state, first, step[3])


def _taken(state, first):
    """Return a state without the keys from a place on."""
    return None, _marks_up_to(state, first - 1), GONE


def _filled(state, first, value):
    """Return a state with a value for the keys from a place on."""
    put, firsts, rest = state
    if put is not None:
        return value, (), GONE
    changed = tuple([mark if mark == GONE else value for mark in firsts[first - 1:]])
    return None, _marks_up_to(state, first - 1) + changed, rest if rest == GONE else value


def _marks_up_to(state, place):
    """Return the marks of the first keys up to a place."""
    _, firsts, rest = state
    return firsts[:place] + tuple([rest for _ in range(place - len(firsts))])


def mark_at(state, place):
    """Return the mark of the key at a place."""
    _, firsts, rest = state
    return firsts[place - 1] if place <= len(firsts) else rest


def _is_there(trail, facts, spot):
    """Tell whether a made key is there."""
    put, _, rest = trail.states[spot]
    if rest == GONE:
        return put is not None
    if not is_told(facts, spot):
        raise OpenQuestion((MANY, spot, 0))
    return facts.lows[spot] == 1


def _value_in(trail, spot):
    """Return the value of a made key that is there."""
    put, _, rest = trail.states[spot]
    return _value_of(rest, spot, 1) if put is None else put


def _value_of(mark, spot, place):
    return (spot, place) if mark == KEPT else mark


def spots_behind(trail, facts, spots, after):
    """Return the spots in which keys behind a find can be, with the first place for each."""
    if after is None:
        return [(spot, 1) for spot in spots]
    held = trail.finds.get(after)
    if held is None:
        return []
    at, place = held
    return [
        (spot, place + 1 if spot == at else 1)
        for spot in spots
        if spot > at or (spot == at and place < facts.highs[spot])
    ]


def first_keys(states, facts, spots, count):
    """Return the first so many keys of spots as tuples (spot, place, value)."""
    found = []
    for spot, first in spots:
        state = states[spot]
        if state[0] is not None:
            found.append((spot, 1, state[0]))
        else:
            found.extend(_first_in_spot(state, facts, spot, first, count - len(found)))
        if len(found) >= count:
            return found[:count]
    return found


def _first_in_spot(state, facts, spot, first, count):
    found = []
    place = first
    while place <= facts.highs[spot] and len(found) < count:
        mark = mark_at(state, place)
        if mark == GONE and place > len(state[1]):
            return found
        if mark != GONE:
            if place > facts.lows[spot]:
                raise OpenQuestion((MANY, spot, 0))
            found.append((spot, place, _value_of(mark, spot, place)))
        place += 1
    return found


def last_key(states, facts, spots):
    """Return the last key of spots as a tuple (spot, place, value), or None."""
    for spot, first in spots[::-1]:
        put, _, rest = states[spot]
        if put is not None:
            return spot, 1, put
        if rest != GONE and not is_told(facts, spot):
            # Keys further behind have this mark, too, so it is not asked how many there are.
            if facts.lows[spot] >= first and mark_at(states[spot], facts.lows[spot]) == rest:
                return spot, 0, _value_of(rest, spot, 0)
            raise OpenQuestion((MANY, spot, 0))
        for place in range(facts.lows[spot], first - 1, -1):
            mark = mark_at(states[spot], place)
            if mark != GONE:
                return spot, place, _value_of(mark, spot, place)
    return None


def holds_in(trail, facts, test):
    """Tell whether a test holds here."""
    wanted, core = test
    return _core_holds(trail, facts, core) == wanted


def _core_holds(trail, facts, core):
    word = core[0]
    if word == FOUND:
        return trail.finds.get(core[1]) is not None
    if word == THERE:
        return _is_there(trail, facts, core[1])
    if word == IS:
        return _is_there(trail, facts, core[1]) and _is_same(facts, _value_in(trail, core[1]), core[2])
    if word == SAME:
        _, one, other = core
        are_there = _is_there(trail, facts, one) and _is_there(trail, facts, other)
        return are_there and _is_same(facts, _value_in(trail, one), _value_in(trail, other))
    return len(first_keys(trail.states, facts, spots_behind(trail, facts, core[1], core[2]), 1)) > 0


def _is_same(facts, one, other):
    answer = are_same(facts, one, other)
    if answer is None:
        raise OpenQuestion((EQUAL, one, other))
    return answer


def _answer(trail, facts, step):
    """Return the word of a step and its answer.

    The answers to LIST and COUNT are the states of their spots, each with the
    spot and the first place, as it may be told later what is in them.
    """
    word = step[0]
    if word == TELL:
        return word, _value_in(trail, step[1]) if _is_there(trail, facts, step[1]) else None
    spots = spots_behind(trail, facts, step[1], step[2])
    if word in (LIST, COUNT):
        return word, tuple([(spot, first, trail.states[spot]) for spot, first in spots])
    if word == LAST:
        return word, last_key(trail.states, facts, spots)
    _, _, _, count, found = step
    keys_found = tuple(first_keys(trail.states, facts, spots, count))
    trail.finds[found] = keys_found[-1][:2] if keys_found else None
    return word, keys_found
