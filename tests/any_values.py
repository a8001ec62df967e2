"""Values that the tests of several modules pass, and names made by brute force."""

from itertools import product


def nested(inner, depth):
    """The value within lists and tuples, in turns, nested so deep."""
    value = inner
    for at in range(depth):
        value = [value] if at % 2 else (value, at)
    return value


def no_strings():
    """Any values of each kind that is no string."""
    return [
        0, 1, -1, 3, 10**18, 10**5000, -(10**5000),
        True, False, None,
        [], (), ["a", "b"], ("a", "b"), ["ab"], ("ab",), [[]], ((),),
        nested("ab", 8), nested(None, 8), nested([], 7),
    ]


def texts_up_to(letters, length):
    """All texts with at most so many letters, as ascending names."""
    return [
        "".join(row)
        for size in range(length + 1)
        for row in product(letters, repeat=size)
    ]
