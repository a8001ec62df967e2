"""Zones as steps: the stretches and signs of a zone, in the order in which they are worked.

A step is a tuple (word, low, high). For a stretch the word is its text, and low
and high are its bounds; for NOT and a sign both are None. NOT stands behind the
steps of the zone that it is about, a sign behind those of the two that it joins.
"""

from undername.bounds import BEHIND, END, FROM, PAST, Bound
from undername.errors import InvalidZone
from undername.made import EMPTY, MARK, Made

NOT = "not"
AND = "&"
OR = "|"
MINUS = "-"
EITHER = "^"
SIGNS = ("&", "|", "-", "^")
OPEN = "("
CLOSE = ")"


def stretch_step(low, high):
    return f"{low} to {high}", low, high


def under_step(made):
    return f"under {made}", Bound(FROM, made), Bound(PAST, made)


def only_step(made):
    return f"key {made}", Bound(FROM, made), Bound(BEHIND, made)


def everything_step():
    return "all", Bound(FROM, Made()), Bound(END)


def sign_step(word):
    """Return the step of NOT or of a sign."""
    return word, None, None


def bounds_of(steps):
    """Return the bounds of the stretches, from left to right, each once."""
    by_text = {}
    for _, low, high in steps:
        if low is not None:
            by_text.setdefault(str(low), low)
            by_text.setdefault(str(high), high)
    return list(by_text.values())


def written(steps):
    """Return the text of a zone."""
    parts = []
    for word, low, _ in steps:
        if low is not None:
            parts.append((word, False))
            continue
        last = _as_part(parts.pop())
        if word == NOT:
            parts.append((f"{NOT} {last}", False))
        else:
            text, _ = parts.pop()
            parts.append((f"{text} {word} {last}", True))
    return parts[0][0]


def _as_part(part):
    """Return the text of a part, in parentheses if it is a zone with a sign."""
    text, has_sign = part
    return f"{OPEN} {text} {CLOSE}" if has_sign else text


def read_steps(letters, text):
    """Return the steps of the text of a zone."""
    words = text.split(" ")
    steps = []
    # The signs, NOTs and parentheses that wait for the part behind them. They
    # are no calls within calls, as parentheses may be hundreds deep.
    waiting = []
    part_is_due = True
    at = 0
    while part_is_due or at < len(words):
        word = _word_at(words, at)
        if part_is_due and word in (NOT, OPEN):
            waiting.append(word)
            at += 1
            continue
        if not part_is_due and word in SIGNS:
            waiting.append(word)
            at += 1
            part_is_due = True
            continue
        if part_is_due:
            step, at = _read_stretch(letters, words, at)
            steps.append(step)
            part_is_due = False
        elif word == CLOSE and waiting:
            waiting.pop()
            at += 1
        else:
            raise InvalidZone(at)
        while waiting and waiting[-1] != OPEN:
            steps.append(sign_step(waiting.pop()))
    if waiting:
        raise InvalidZone(at)
    return tuple(steps)


def _word_at(words, at):
    """Return the word with a number; raise InvalidZone if there is none."""
    if at == len(words):
        raise InvalidZone(at)
    return words[at]


def _read_stretch(letters, words, at):
    """Return the step of the stretch at a word, and the number of the word behind it."""
    word = _word_at(words, at)
    if word == "all":
        return everything_step(), at + 1
    if word == "under":
        return under_step(_read_made(letters, words, at + 1)), at + 2
    if word == "key":
        return only_step(_read_made(letters, words, at + 1)), at + 2
    low, at = _read_bound(letters, words, at)
    if _word_at(words, at) != "to":
        raise InvalidZone(at)
    high, at = _read_bound(letters, words, at + 1)
    return stretch_step(low, high), at


def _read_bound(letters, words, at):
    """Return the bound at a word, and the number of the word behind it."""
    word = _word_at(words, at)
    if word == END:
        return Bound(END), at + 1
    if word not in (FROM, BEHIND, PAST):
        raise InvalidZone(at)
    return Bound(word, _read_made(letters, words, at + 1)), at + 2


def _read_made(letters, words, at):
    made = made_of_word(letters, _word_at(words, at))
    if made is None:
        raise InvalidZone(at)
    return made


def made_of_word(letters, word):
    """Return the made text that a word writes, or None."""
    if word == EMPTY:
        return Made()
    if word == "" or not all([character == MARK or character in letters for character in word]):
        return None
    return Made(word)


def stretches_at(letters, steps, name):
    """Return the stretches of a zone for a name."""
    spans = _spans(letters, steps, name)
    cuts = sorted(set([str(text) for span in [("",)] + spans for text in span if text is not None]))
    found = []
    # No stretch begins or ends between two neighbouring cuts, so the text at a
    # cut tells for all texts up to the next one.
    for low, high in zip(cuts, cuts[1:] + [None]):
        if not _holds(steps, spans, low):
            continue
        if found and found[-1][1] == low:
            found[-1] = (found[-1][0], high)
        else:
            found.append((low, high))
    return found


def holds_at(letters, steps, name, text):
    """Tell whether a zone holds a text for a name."""
    return _holds(steps, _spans(letters, steps, name), text)


def _spans(letters, steps, name):
    """Return for each step the places of its bounds; nothing for NOT and signs."""
    return [
        () if low is None else (low.placed(letters, name), high.placed(letters, name))
        for _, low, high in steps
    ]


def _holds(steps, spans, text):
    held = []
    for (word, low, _), span in zip(steps, spans):
        if low is not None:
            held.append(_is_between(span, text))
        elif word == NOT:
            held.append(not held.pop())
        else:
            last = held.pop()
            held.append(_joined(held.pop(), word, last))
    return held[0]


def _is_between(span, text):
    low, high = span
    return low is not None and low <= text and (high is None or text < high)


def _joined(one, sign, other):
    if sign == AND:
        return one and other
    if sign == OR:
        return one or other
    if sign == MINUS:
        return one and not other
    return one != other
