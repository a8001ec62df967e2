"""Papers checked by plain reading of [40] to [43]: each leaf runs both programs anew."""

from itertools import product

from undername.bounds import Bound
from undername.made import Made
from undername.orders import classes, told_names
from undername.rows import (
    Copy, Count, Fill, Found, If, Is, Keep, Last, List, Not, Page, Put, Same, Some, Take, Tell, There,
)
from undername.texts import room

AS_AT_START = "as at the start"


class Open(Exception):
    """A question that what is told does not answer."""


def core(test):
    return core(test.test) if isinstance(test, Not) else test


def key_texts_and_bounds(p, q, where):
    texts = list(p.key_texts) + list(q.key_texts)
    bounds = list(p.bounds) + list(q.bounds)
    for test in map(core, where):
        if isinstance(test, Some):
            bounds += test.zone.bounds
        else:
            mades = [test.key, test.other] if isinstance(test, Same) else [test.key]
            texts += [made.text for made in mades]
            bounds += [kind(made) for made in mades for kind in (Bound.ahead, Bound.behind)]
    return sorted(set(texts)), bounds


class Told:
    """What is told on the way to a tree, for one name."""

    def __init__(self, letters, name, texts, bounds, most):
        self.letters, self.name, self.most = letters, name, most
        places = [bound.placed(letters, name) for bound in bounds]
        lows = sorted({place for place in places if place is not None})
        self.made_keys = sorted({Made(text)(name) for text in texts})
        self.gaps = [(low, high) for low, high in zip(lows, lows[1:] + [None]) if low not in self.made_keys]
        self.there = {}
        self.sizes = {}
        self.values = []

    def with_told(self, there=None, sizes=None, values=None):
        other = object.__new__(Told)
        other.__dict__.update(self.__dict__)
        other.there = {**self.there, **(there or {})}
        other.sizes = {**self.sizes, **(sizes or {})}
        other.values = self.values + (values or [])
        return other

    def sizes_of(self, gap):
        many = room(self.letters, *self.gaps[gap])
        return min(self.most, self.most if many is None else many) + 1

    def answer(self, one, other):
        """Whether two values (numbers, or keys for their values) are the same: True, False, or None if either."""
        if one == other:
            return True
        keys = {key for question in [(one, other)] + [row[:2] for row in self.values] for key in question}
        numbers = sorted(key for key in keys if isinstance(key, int))
        keys = sorted(key for key in keys if isinstance(key, str))
        domain = numbers + [max(numbers, default=0) + 1 + at for at, _ in enumerate(keys)]
        found = set()
        for row in product(domain, repeat=len(keys)):
            value = dict(zip(keys, row))
            if all((value.get(left, left) == value.get(right, right)) == yes for left, right, yes in self.values):
                found.add(value.get(one, one) == value.get(other, other))
        assert found
        return found.pop() if len(found) == 1 else None


class PlainTrail:
    """A run with what is told: from texts to (whether it is told to be there, value or state)."""

    def __init__(self, told):
        self.told = told
        self.now = {}
        self.finds = {}
        self.answers = []
        for number, text in enumerate(told.made_keys):
            is_there = told.there.get(number)
            if is_there is not False:
                self.now[text] = (True, text) if is_there else (False, AS_AT_START)
        for number, (low, _) in enumerate(told.gaps):
            if number in told.sizes:
                for at in range(told.sizes[number]):
                    text = low + told.letters[0] * at
                    self.now[text] = (True, text)
            else:
                self.now[low] = (False, AS_AT_START)

    def texts_of(self, part):
        after = getattr(part, "after", None)
        if after is not None and self.finds.get(after) is None:
            return []
        return [
            text for text in sorted(self.now)
            if part.zone.has(self.told.name, text) and (after is None or text > self.finds[after])
        ]

    def value(self, made):
        text = made(self.told.name)
        if text not in self.now:
            return None
        is_told, value = self.now[text]
        if not is_told:
            raise Open
        return value

    def is_same(self, one, other):
        answer = self.told.answer(one, other)
        if answer is None:
            raise Open
        return answer

    def first(self, texts, count):
        found = []
        for text in texts:
            if len(found) == count:
                break
            is_told, value = self.now[text]
            if not is_told:
                raise Open
            found.append((text, value))
        return tuple(found)

    def holds(self, test):
        if isinstance(test, Not):
            return not self.holds(test.test)
        if isinstance(test, Found):
            return self.finds.get(test.found) is not None
        if isinstance(test, Some):
            return bool(self.first(self.texts_of(test), 1))
        value = self.value(test.key)
        if value is None or isinstance(test, There):
            return value is not None
        if isinstance(test, Is):
            return self.is_same(value, test.value)
        other = self.value(test.other)
        return other is not None and self.is_same(value, other)

    def do(self, rows):
        for row in rows:
            if isinstance(row, If):
                self.do(row.rows if self.holds(row.test) else row.others)
            elif isinstance(row, Put):
                self.now[row.key(self.told.name)] = (True, row.value)
            elif isinstance(row, Copy):
                value = self.value(row.source)
                if value is not None:
                    self.now[row.key(self.told.name)] = (True, value)
            elif isinstance(row, (Take, Fill, Keep)):
                self.change(row)
            else:
                self.answers.append(self.answer(row))

    def change(self, row):
        texts = self.texts_of(row)
        for text in list(self.now):
            if isinstance(row, Fill) and text in texts:
                self.now[text] = (self.now[text][0], row.value)
            elif not isinstance(row, Fill) and (text in texts) == isinstance(row, Take):
                del self.now[text]

    def answer(self, row):
        if isinstance(row, Tell):
            value = self.value(row.key)
            return "tell", () if value is None else (("", True, value),)
        texts = self.texts_of(row)
        if isinstance(row, List):
            return "list", tuple((text, *self.now[text]) for text in texts)
        if isinstance(row, Count):
            number = sum(self.now[text][0] for text in texts)
            return f"count {number}", tuple((text, False, "") for text in texts if not self.now[text][0])
        if isinstance(row, Last):
            return "last", tuple((text, True, value) for text, value in self.first(texts[::-1], 1))
        assert isinstance(row, Page)
        found = self.first(texts, row.count)
        self.finds[row.found] = found[-1][0] if found else None
        return "page", tuple((text, True, value) for text, value in found)

    def ends(self):
        return "ends", tuple((text, *self.now[text]) for text in sorted(self.now))


def are_same(told, one, other):
    """Whether two answers are the same, by what is told."""
    if one[0] != other[0] or [row[:2] for row in one[1]] != [row[:2] for row in other[1]]:
        return False
    for (_, is_told, value), (_, _, worth) in zip(one[1], other[1]):
        if (told.answer(value, worth) is not True) if is_told else (value != worth):
            return False
    return True


def leaf_is_right(told, p, q, where, answers, store):
    trails = [PlainTrail(told), PlainTrail(told)]
    try:
        trails[0].do(p.rows)
        trails[1].do(q.rows)
        rows = [(trail.answers if answers else []) + ([trail.ends()] if store else []) for trail in trails]
        if len(rows[0]) == len(rows[1]) and all(are_same(told, *pair) for pair in zip(*rows)):
            return True
    except Open:
        pass
    return any(fails(told, test) for test in where)


def fails(told, test):
    try:
        return not PlainTrail(told).holds(test)
    except Open:
        return False


def number_in(value, many):
    return type(value) is int and 0 <= value < many


def tree_is_right(told, tree, *how):
    if type(tree) is not tuple:
        return False
    if tree == ():
        return leaf_is_right(told, *how)
    keys = told.made_keys
    if tree[0] == "there" and len(tree) == 4 and number_in(tree[1], len(keys)) and tree[1] not in told.there:
        branches = [(tree[2], told.with_told(there={tree[1]: True})), (tree[3], told.with_told(there={tree[1]: False}))]
    elif tree[0] == "many" and len(tree) > 1 and number_in(tree[1], len(told.gaps)) and tree[1] not in told.sizes:
        if len(tree) != 2 + told.sizes_of(tree[1]):
            return False
        branches = [(some, told.with_told(sizes={tree[1]: many})) for many, some in enumerate(tree[2:])]
    elif tree[0] in ("is", "same") and len(tree) == 5 and number_in(tree[1], len(keys)):
        if not number_in(tree[2], 10**18 if tree[0] == "is" else len(keys)):
            return False
        if tree[0] == "same" and (tree[1] >= tree[2] or not told.there.get(tree[2])):
            return False
        one, other = keys[tree[1]], tree[2] if tree[0] == "is" else keys[tree[2]]
        if not told.there.get(tree[1]) or told.answer(one, other) is not None:
            return False
        branches = [(some, told.with_told(values=[(one, other, yes)])) for some, yes in ((tree[3], True), (tree[4], False))]
    else:
        return False
    return all(tree_is_right(more, some, *how) for some, more in branches)


def told_names_meant(p, q, names, where):
    """The told names in whose class there is a name meant, with the texts of keys, bounds and sizes."""
    texts, bounds = key_texts_and_bounds(p, q, where)
    most = p.pages + q.pages + 2
    if names is None:
        told = told_names(p.letters, bounds, most=most)
    else:
        told = [one for one, some in classes(p.letters, bounds, most=most) if some & names]
    return told, texts, bounds, most


def plainly_holds(p, q, paper, names=None, where=(), answers=True, store=True):
    told, texts, bounds, most = told_names_meant(p, q, names, where)
    if type(paper) is not tuple or len(paper) != len(told):
        return False
    return all(
        tree_is_right(Told(p.letters, name, texts, bounds, most), tree, p, q, where, answers, store)
        for name, tree in zip(told, paper)
    )


def inner_trees(tree):
    """The places of the trees within a tree, as paths of indexes."""
    first = {"there": 2, "many": 2, "is": 3, "same": 3}[tree[0]] if tree else 0
    found = [()]
    for at in range(first, len(tree)):
        found += [(at, *path) for path in inner_trees(tree[at])]
    return found


def tree_at(tree, path):
    for at in path:
        tree = tree[at]
    return tree


def with_tree(tree, path, other):
    if not path:
        return other
    at = path[0]
    return tree[:at] + (with_tree(tree[at], path[1:], other),) + tree[at + 1:]
