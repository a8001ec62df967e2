"""Values that the tests of several modules pass, and names made by brute force."""

from itertools import product


def nested(inner, depth):
    """The value within lists and tuples, in turns, nested so deep."""
    value = inner
    for at in range(depth):
        value = [value] if at % 2 else (value, at)
    return value


def no_strings():
    """Any values of each kind that is no string."""
    return [
        0, 1, -1, 3, 10**18, 10**5000, -(10**5000),
        True, False, None,
        [], (), ["a", "b"], ("a", "b"), ["ab"], ("ab",), [[]], ((),),
        nested("ab", 8), nested(None, 8), nested([], 7),
    ]


def texts_up_to(letters, length):
    """All texts with at most so many letters, as ascending names."""
    return [
        "".join(row)
        for size in range(length + 1)
        for row in product(letters, repeat=size)
    ]


def ascending(names):
    """Names in their order: by length, then as strings."""
    return sorted(names, key=lambda name: (len(name), name))


def made_texts(letters, fixed, marks):
    """The texts of made texts with at most so many fixed letters and marks."""
    return [
        "".join(row)
        for size in range(fixed + marks + 1)
        for row in product(letters + "@", repeat=size)
        if row.count("@") <= marks and size - row.count("@") <= fixed
    ]


def random_text(source, letters, longest):
    """A text of random letters, at most so long."""
    return "".join(source.choice(letters) for _ in range(source.randint(0, longest)))


def random_made(source, letters, fixed=4, marks=4):
    """A random text of a made text whose fixed letters often repeat."""
    word = random_text(source, letters, 3) + source.choice(letters)
    parts = ["@"] * source.randint(0, marks)
    left = source.randint(0, fixed)
    while left > 0:
        part = source.choice([word, source.choice(letters), letters[0], letters[-1]])[:left]
        parts.append(part)
        left -= len(part)
    source.shuffle(parts)
    return "".join(parts)


def long_names(source, letters, words, count):
    """Random names that run along words for long, and then leave them."""
    names = []
    for _ in range(count):
        word = source.choice(words)
        name = (word * 60)[:source.randint(0, 60)]
        if source.random() < 0.7:
            name += random_text(source, letters, 2)
            name += source.choice([letters[0], letters[-1], word]) * source.randint(0, 8)
            name += random_text(source, letters, 1)
        names.append(name)
    return names
