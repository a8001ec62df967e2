"""Searches: whether a script comes to what is looked for, and for which least store."""

from undername.facts import OpenQuestion, answers_to, are_same, closed, is_told, made_same, no_facts, sized
from undername.trails import copied_trail, go_on, new_trail
from undername.verdicts import verdict


def open_question(trail, facts):
    """Go on along a trail; return the question that it comes to, or None at its end."""
    try:
        go_on(trail, facts)
    except OpenQuestion as e:
        return e.question
    return None


def is_come_to(field, steps):
    """Tell whether there is a store for which a script comes to what is looked for."""
    waiting = [(new_trail(field, steps), no_facts(field))]
    while waiting:
        trail, facts = waiting.pop()
        question = open_question(trail, facts)
        if question is None:
            if verdict(trail, facts):
                return True
        else:
            waiting.extend([(copied_trail(trail), told) for told in answers_to(facts, question)])
    return False


def least_found(field, steps):
    """Return the least store for which a script comes to what is looked for, or None.

    It is a tuple: the number of keys, the keys, ascending, and their values.
    """
    best = None
    # Trails wait by the number of keys that are told.
    waiting = [[(new_trail(field, steps), no_facts(field))]]
    many = 0
    while many < len(waiting) and (best is None or many <= best[0]):
        if not waiting[many]:
            many += 1
            continue
        trail, facts = waiting[many].pop()
        question = open_question(trail, facts)
        if question is None:
            best = _lesser(best, _least_at_end(field, trail, facts))
        else:
            for told in answers_to(facts, question):
                size = sum(told.lows)
                if size == len(waiting):
                    waiting.append([])
                waiting[size].append((copied_trail(trail), told))
    return best


def _lesser(one, other):
    if one is None or other is None:
        return one or other
    return one if one <= other else other


def _least_at_end(field, trail, facts):
    """Return the least store of what is told at the end of a trail, or None."""
    if not verdict(trail, facts):
        return None
    least = closed(facts)
    pairs = verdict(trail, least)
    if pairs:
        return _least_store(field, least, pairs)
    best = None
    # If nothing differs without the keys that are not told of, one of them is enough.
    for spot in range(len(field.lows)):
        if not is_told(facts, spot):
            more = sized(least, spot, facts.lows[spot] + 1, facts.lows[spot] + 1)
            pairs = verdict(trail, more)
            if pairs:
                best = _lesser(best, _least_store(field, more, pairs))
    return best


def _least_store(field, facts, pairs):
    """Return the least store with so many keys in each spot, and one pair that differs."""
    texts = []
    values = []
    told = facts
    for spot, many in enumerate(facts.lows):
        for place in range(1, many + 1):
            # The least texts of a gap are the first one and more and more least letters behind it.
            texts.append(field.lows[spot] + field.letters[0] * (place - 1))
            value = _least_value(told, (spot, place), pairs)
            values.append(value)
            told = made_same(told, (spot, place), value)
    return len(texts), tuple(texts), tuple(values)


def _least_value(facts, key, pairs):
    """Return the least value of a key with which one pair can differ."""
    number = facts.known.get(key)
    if isinstance(number, int):
        return number
    value = 0
    while not _can_be(facts, key, value, pairs):
        value += 1
    return value


def _can_be(facts, key, value, pairs):
    if are_same(facts, key, value) is False:
        return False
    told = made_same(facts, key, value)
    return any([are_same(told, one, other) is not True for one, other in pairs])
