"""Random bounds and zones, with the keys that they hold by plain search."""

from tests.any_values import random_made
from undername.bounds import Bound
from undername.made import Made
from undername.zones import Zone

KINDS = ("from", "behind", "past")
FIXED = 8


def random_mades(source, letters, count):
    """Different made texts with at most 8 fixed letters in all."""
    left = FIXED
    texts = {}
    while len(texts) < count:
        text = random_made(source, letters, min(left, 4))
        if text not in texts:
            texts[text] = True
            left -= len(text) - text.count("@")
    return [Made(text) for text in texts]


def random_bounds(source, letters, count):
    """Bounds of random made texts, some of which occur in several bounds."""
    mades = random_mades(source, letters, source.randint(1, max(1, count)))
    return [
        Bound.end() if source.random() < 0.1 else Bound(source.choice(KINDS), source.choice(mades))
        for _ in range(count)
    ]


def bound_is_behind(letters, bound, name, key):
    """Whether the place of a bound is behind a key, by the words of [20]."""
    if bound.kind == "end":
        return True
    text = bound.made(name)
    if bound.kind == "from":
        return key < text
    if bound.kind == "behind":
        return key <= text
    return key < text or key.startswith(text)


def random_stretch(source, letters, mades):
    """A stretch of random bounds, with the function that tells what it holds."""
    kind = source.randint(0, 5)
    made = source.choice(mades)
    if kind == 0:
        return Zone.under(letters, made), lambda name, key: key.startswith(made(name))
    if kind == 1:
        return Zone.only(letters, made), lambda name, key: key == made(name)
    if kind == 2 and source.random() < 0.5:
        return Zone.everything(letters), lambda name, key: True
    low, high = [
        Bound.end() if source.random() < 0.1 else Bound(source.choice(KINDS), source.choice(mades))
        for _ in range(2)
    ]
    return Zone(letters, low, high), lambda name, key: (
        bound_is_behind(letters, high, name, key) and not bound_is_behind(letters, low, name, key)
    )


def random_zone(source, letters, mades, depth):
    """A random zone, with the function that tells what it holds."""
    kind = source.randint(0, 5) if depth else 5
    if kind == 5:
        return random_stretch(source, letters, mades)
    one, in_one = random_zone(source, letters, mades, depth - 1)
    if kind == 4:
        return ~one, lambda name, key: not in_one(name, key)
    other, in_other = random_zone(source, letters, mades, depth - 1)
    return [
        (one & other, lambda name, key: in_one(name, key) and in_other(name, key)),
        (one | other, lambda name, key: in_one(name, key) or in_other(name, key)),
        (one - other, lambda name, key: in_one(name, key) and not in_other(name, key)),
        (one ^ other, lambda name, key: in_one(name, key) != in_other(name, key)),
    ][kind]
