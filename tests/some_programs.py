"""Random programs, tests and stores, and least pairs by plain search."""

from itertools import combinations, product

from tests.any_values import ascending, random_made, texts_up_to
from tests.some_bounds import random_zone
from undername.made import Made
from undername.programs import Program
from undername.rows import (
    Copy, Count, Fill, Found, If, Is, Keep, Last, List, Not, Page, Put, Same, Some, Take, Tell, There,
)
from undername.runs import holds, run
from undername.stores import Store

FINDS = ("c", "to", "not")


class Source:
    """Draws rows over a few made texts, with a number of keys that are left for pages.

    With one find, rows often go on behind the pages.
    """

    def __init__(self, source, letters, texts, pages=3, values=2, depth=1, finds=FINDS):
        self.source = source
        self.letters = letters
        self.mades = [Made(text) for text in texts]
        self.pages = pages
        self.values = values
        self.depth = depth
        self.finds = finds

    def made(self):
        return self.source.choice(self.mades)

    def zone(self):
        return random_zone(self.source, self.letters, self.mades, self.source.choice([0, 0, 0, self.depth]))[0]

    def value(self):
        return self.source.randrange(self.values)

    def after(self):
        return self.source.choice([None] * (1 if len(self.finds) == 1 else 3) + list(self.finds))

    def test(self, with_finds=True):
        kind = self.source.randint(0, 5 if with_finds else 4)
        after = self.after() if with_finds else None
        if kind == 0:
            return There(self.made())
        if kind == 1:
            return Is(self.made(), self.value())
        if kind == 2:
            return Same(self.made(), self.made())
        if kind == 3:
            return Some(self.zone(), after)
        if kind == 4:
            return Not(self.test(with_finds))
        return Found(self.source.choice(self.finds))

    def row(self, blocks):
        kind = self.source.randint(0, 12 if blocks else 10)
        if kind == 0:
            return Put(self.made(), self.value())
        if kind == 1:
            return Copy(self.made(), self.made())
        if kind == 2:
            return Take(self.zone(), self.after())
        if kind == 3:
            return Keep(self.zone())
        if kind == 4:
            return Fill(self.zone(), self.value(), self.after())
        if kind == 5:
            return Tell(self.made())
        if kind == 6:
            return List(self.zone(), self.after())
        if kind == 7:
            return Count(self.zone(), self.after())
        if kind == 8:
            return Last(self.zone(), self.after())
        if kind in (9, 10):
            count = self.source.randint(1, 2)
            if count > self.pages:
                return Tell(self.made())
            self.pages -= count
            return Page(self.zone(), count, self.source.choice(self.finds), self.after())
        rows = [self.row(blocks - 1) for _ in range(self.source.randint(0, 2))]
        others = [self.row(blocks - 1) for _ in range(self.source.choice([0, 0, 1, 2]))]
        return If(self.test(), rows, others)

    def program(self, rows, blocks=1):
        return Program(self.letters, [self.row(blocks) for _ in range(rows)])

    def changed(self, program):
        """A program that is much like another one, and often alike."""
        rows = list(program.rows)
        for _ in range(self.source.randint(1, 2)):
            kind = self.source.randint(0, 3)
            at = self.source.randint(0, len(rows))
            if kind == 0 and at < len(rows):
                del rows[at]
            elif kind == 1:
                rows.insert(at, self.row(0))
            elif kind == 2 and rows:
                rows.insert(at, rows.pop(self.source.randrange(len(rows))))
            elif at < len(rows):
                rows[at] = If(self.test(), [rows[at]], [rows[at]])
        changed = Program(self.letters, rows)
        return changed if changed.pages <= 3 else program


def random_texts(source, letters, count, fixed=2, marks=2):
    """Texts of made texts, not all different ones."""
    return [random_made(source, letters, fixed, marks) for _ in range(count)]


def stores(letters, longest, many, values):
    """All stores with so many short keys at most, in the order of [38]."""
    texts = sorted(texts_up_to(letters, longest))
    for size in range(many + 1):
        for keys in combinations(texts, size):
            for row in product(values, repeat=size):
                yield Store(letters, list(zip(keys, row)))


def least_by_search(letters, names, some_stores, is_it):
    """The least pair of a name and a store, by plain search."""
    for name in names:
        for store in some_stores:
            if is_it(name, store):
                return name, store
    return None


def place_of(pair):
    """What pairs of names and stores are ordered by, by the words of [38]."""
    name, store = pair
    pairs = store.pairs()
    return (len(name), name), len(pairs), [key for key, _ in pairs], [value for _, value in pairs]


def are_parted(p, q, name, store, where=(), answers=True, ends=True):
    """Whether a store is meant, and both programs have other outcomes."""
    if not all(holds(test, p.letters, name, store) for test in where):
        return False
    one, other = run(p, name, store), run(q, name, store)
    return answers and one.answers != other.answers or ends and one.store != other.store


def short_names(letters, longest):
    return ascending(texts_up_to(letters, longest))
