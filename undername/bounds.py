"""Bounds: places between texts, one for each name."""

from undername.errors import InvalidBound
from undername.made import Made, check_among, filled
from undername.texts import raised

FROM = "from"
BEHIND = "behind"
PAST = "past"
END = "end"


class Bound:
    """A place before, behind or past a made text, or after all texts."""

    def __init__(self, kind, made=None):
        if not _is_bound(kind, made):
            raise InvalidBound()
        self.kind = kind
        self.made = made

    @classmethod
    def ahead(cls, made):
        return cls(FROM, made)

    @classmethod
    def behind(cls, made):
        return cls(BEHIND, made)

    @classmethod
    def past(cls, made):
        return cls(PAST, made)

    @classmethod
    def end(cls):
        return cls(END)

    def placed(self, letters, name):
        """Return the least text behind this place, or None if there is none."""
        check_bound(letters, self)
        if self.kind == END:
            return None
        text = filled(self.made, name)
        if self.kind == FROM:
            return text
        if self.kind == BEHIND:
            return text + letters[0]
        return raised(letters, text)

    def __eq__(self, other):
        return isinstance(other, Bound) and self.kind == other.kind and self.made == other.made

    def __str__(self):
        return str(END if self.made is None else f"{self.kind} {self.made}")


def _is_bound(kind, made):
    if not isinstance(kind, str):
        return False
    if kind == END:
        return made is None
    return kind in (FROM, BEHIND, PAST) and isinstance(made, Made)


def check_bound(letters, bound):
    """Raise Mismatch if a fixed letter of a bound is not among the letters."""
    if bound.made is not None:
        check_among(letters, bound.made)
