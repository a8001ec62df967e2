"""Programs: rows that are done one after the other."""

from undername.errors import Mismatch, NoRow
from undername.parts import bounds_of_parts, check_parts, key_texts_of, pages_of, parts_within, rows_within
from undername.reading import read_rows
from undername.rows import If, check_rows
from undername.runs import run
from undername.texts import check_letters


class Program:
    """Rows over letters; called with a name and a store it gives the outcome of its run."""

    def __init__(self, letters, rows=()):
        check_letters(letters)
        check_rows(rows)
        parts = parts_within(rows)
        check_parts(letters, parts)
        self.letters = letters
        self.rows = tuple(rows)
        self.numbered = tuple(rows_within(rows))
        self.pages = pages_of(rows)
        self.key_texts = tuple(key_texts_of(parts))
        self.bounds = tuple(bounds_of_parts(parts))

    @classmethod
    def read(cls, letters, text):
        return cls(letters, read_rows(letters, text))

    def __call__(self, name, store):
        return run(self, name, store)

    def without(self, at, *more):
        """Return the program without the rows with some numbers."""
        left_out = [at, *more]
        for number in left_out:
            if not 0 <= number < len(self.numbered):
                raise NoRow(number)
        return Program(self.letters, _rows_left(self.rows, 0, left_out))

    def __len__(self):
        return len(self.numbered)

    def __getitem__(self, at):
        if not 0 <= at < len(self.numbered):
            raise NoRow(at)
        return self.numbered[at]

    def __iter__(self):
        raise TypeError("programs are not iterable")

    def __add__(self, other):
        if not isinstance(other, Program):
            return NotImplemented
        if self.letters != other.letters:
            raise Mismatch()
        return Program(self.letters, self.rows + other.rows)

    def __eq__(self, other):
        return isinstance(other, Program) and self.letters == other.letters and str(self) == str(other)

    def __str__(self):
        return "\n".join([str(row) for row in self.rows])


def _rows_left(rows, first, left_out):
    """Return rows, numbered from a first number on, without those whose numbers are left out."""
    left = []
    number = first
    for row in rows:
        if number not in left_out:
            left.append(_row_left(row, number, left_out))
        number = number + len(rows_within([row]))
    return left


def _row_left(row, number, left_out):
    if not isinstance(row, If):
        return row
    others_first = number + 1 + len(rows_within(row.rows))
    return If(
        row.test,
        _rows_left(row.rows, number + 1, left_out),
        _rows_left(row.others, others_first, left_out),
    )
