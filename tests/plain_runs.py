"""Runs by plain search in a dict, by the words of [30] and [35]."""

from undername.rows import (
    Copy, Count, Fill, Found, If, Is, Keep, Last, List, Not, Page, Put, Same, Take, Tell, There,
)


class PlainRun:
    """A run on a dict; `ran` holds the numbers of the rows that were run."""

    def __init__(self, name, pairs):
        self.name = name
        self.table = dict(pairs)
        self.finds = {}
        self.answers = []
        self.ran = set()

    def keys_of(self, part):
        after = getattr(part, "after", None)
        if after is not None and self.finds.get(after) is None:
            return []
        return [
            key for key in sorted(self.table)
            if part.zone.has(self.name, key) and (after is None or key > self.finds[after])
        ]

    def holds(self, test):
        if isinstance(test, Not):
            return not self.holds(test.test)
        if isinstance(test, There):
            return test.key(self.name) in self.table
        if isinstance(test, Is):
            return self.table.get(test.key(self.name)) == test.value
        if isinstance(test, Same):
            one, other = test.key(self.name), test.other(self.name)
            return one in self.table and other in self.table and self.table[one] == self.table[other]
        if isinstance(test, Found):
            return self.finds.get(test.found) is not None
        return bool(self.keys_of(test))

    def do(self, rows, number=0):
        """Do rows that are numbered from here on; return the number behind them."""
        for row in rows:
            self.ran.add(number)
            number = self.do_block(row, number) if isinstance(row, If) else self.do_row(row, number)
        return number

    def do_block(self, row, number):
        is_met = self.holds(row.test)
        ran = set(self.ran)
        state = (dict(self.table), dict(self.finds), list(self.answers))
        behind = self.do(row.rows, number + 1)
        if is_met:
            kept = (set(self.ran), dict(self.table), dict(self.finds), list(self.answers))
            behind = self.do(row.others, behind)
            self.ran, self.table, self.finds, self.answers = kept
        else:
            self.ran = ran
            self.table, self.finds, self.answers = state
            behind = self.do(row.others, behind)
        return behind

    def do_row(self, row, number):
        table = self.table
        if isinstance(row, Put):
            table[row.key(self.name)] = row.value
        elif isinstance(row, Copy):
            if row.source(self.name) in table:
                table[row.key(self.name)] = table[row.source(self.name)]
        elif isinstance(row, Take):
            for key in self.keys_of(row):
                del table[key]
        elif isinstance(row, Keep):
            self.table = {key: table[key] for key in self.keys_of(row)}
        elif isinstance(row, Fill):
            table.update({key: row.value for key in self.keys_of(row)})
        else:
            self.answers.append(self.answer(row))
        return number + 1

    def answer(self, row):
        if isinstance(row, Tell):
            return ("tell", self.table.get(row.key(self.name)))
        pairs = tuple((key, self.table[key]) for key in self.keys_of(row))
        if isinstance(row, List):
            return ("list", pairs)
        if isinstance(row, Count):
            return ("count", len(pairs))
        if isinstance(row, Last):
            return ("last", pairs[-1] if pairs else None)
        assert isinstance(row, Page)
        pairs = pairs[:row.count]
        self.finds[row.found] = pairs[-1][0] if pairs else None
        return ("page", pairs)


def plain_run(program, name, store):
    """The answers, the table at the end, and the numbers of the rows that were run."""
    found = PlainRun(name, store.pairs())
    found.do(program.rows)
    return tuple(found.answers), found.table, found.ran
