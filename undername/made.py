"""Made texts: fixed letters, and marks that a name replaces."""

from undername.errors import InvalidMade, Mismatch
from undername.texts import CHARACTERS

MARK = "@"
EMPTY = "!"


class Made:
    """A made text; called with a name it gives the string for that name."""

    def __init__(self, text=""):
        at = _wrong_at(text)
        if at is not None:
            raise InvalidMade(at)
        self.text = text
        # Operators make made texts, and may call no method by the name of an attribute
        # that some class stores; `count` is one of them.
        self.marks = len([character for character in text if character == MARK])
        self.letters = "".join([letter for letter in CHARACTERS if letter in text])

    def __call__(self, name):
        return filled(self, name)

    def __add__(self, other):
        added = _text_of(other)
        if added is None:
            return NotImplemented
        return Made(self.text + added)

    def __radd__(self, other):
        added = _text_of(other)
        if added is None:
            return NotImplemented
        return Made(added + self.text)

    def __mul__(self, other):
        if not isinstance(other, int):
            return NotImplemented
        return Made(self.text * other)

    def __rmul__(self, other):
        if not isinstance(other, int):
            return NotImplemented
        return Made(self.text * other)

    def __eq__(self, other):
        return isinstance(other, Made) and self.text == other.text

    def __len__(self):
        return len(self.text)

    def __str__(self):
        return str(self.text or EMPTY)


def _wrong_at(text):
    """Return where a value is no text of a made text, or None if it is one."""
    if not isinstance(text, str):
        return 0
    for at, character in enumerate(text):
        if character != MARK and character not in CHARACTERS:
            return at
    return None


def _text_of(value):
    """Return the text of a made text, or of a string that is read as one, or None."""
    if isinstance(value, Made):
        return value.text
    if isinstance(value, str):
        return Made(value).text
    return None


def filled(made, name):
    """Return the string of a made text for a name."""
    # Operators may not call an object, so they take this function.
    return made.text.replace(MARK, name)


def check_among(letters, made):
    """Raise Mismatch if a fixed letter of a made text is not among the letters."""
    if not all([letter in letters for letter in made.letters]):
        raise Mismatch()


def struck(one, other):
    """Return what is left of both texts without their longest common beginning."""
    at = 0
    while at < len(one.text) and at < len(other.text) and one.text[at] == other.text[at]:
        at += 1
    return one.text[at:], other.text[at:]


def relation(one, other, name):
    """Return the word that tells how one made text stands to the other for a name."""
    first = filled(one, name)
    second = filled(other, name)
    if first == second:
        return "same"
    if second.startswith(first):
        return "begins"
    if first.startswith(second):
        return "begun"
    return "below" if first < second else "above"


def word_of(one, other):
    """Return the word along which a name must lie to keep the relation open, or None."""
    first, second = struck(one, other)
    if first == "" or second == "":
        return None
    if first[0] == MARK:
        return second.partition(MARK)[0]
    if second[0] == MARK:
        return first.partition(MARK)[0]
    return None
