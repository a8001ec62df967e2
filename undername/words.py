"""Words that are repeated, and names that follow them."""


def root(word):
    """Return (part, times) with word == part * times and the greatest times."""
    # A word stands in its own double again exactly behind each number of
    # letters by which it can be turned into itself; the least is its part's.
    size = (word + word).find(word, 1)
    return word[:size], len(word) // size


def shared(word, name):
    """Return how many letters of the name follow the word repeated without end."""
    for at, letter in enumerate(name):
        if letter != word[at % len(word)]:
            return at
    return len(name)


def same_words(one, other):
    """Tell whether two words are the same when repeated without end."""
    return root(one)[0] == root(other)[0]
