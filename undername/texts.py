"""Letters, the texts over them, and the numbers of names."""

from undername.errors import InvalidLetters

CHARACTERS = "-./0123456789_abcdefghijklmnopqrstuvwxyz"
FEWEST_LETTERS = 2
MOST_LETTERS = 5


def check_letters(letters):
    """Return True for valid letters; raise InvalidLetters for any other value."""
    if not _are_letters(letters):
        raise InvalidLetters()
    return True


def _are_letters(value):
    if not isinstance(value, str):
        return False
    if not FEWEST_LETTERS <= len(value) <= MOST_LETTERS:
        return False
    return _consists_of(CHARACTERS, value) and _ascends(value)


def _consists_of(characters, text):
    return all([character in characters for character in text])


def _ascends(text):
    return all([one < other for one, other in zip(text, text[1:])])


def is_text(letters, value):
    """Tell whether any value is a text over the letters."""
    return isinstance(value, str) and _consists_of(letters, value)


def raised(letters, text):
    """Return the least text greater than all that begin with the text, or None."""
    head = text.rstrip(letters[-1])
    if head == "":
        return None
    return head[:-1] + letters[letters.index(head[-1]) + 1]


def room(letters, low, high):
    """Return the number of texts from low up to high, or None if it is endless."""
    if high is None:
        return None
    if high <= low:
        return 0
    added = len(high) - len(low)
    # Any other text above low is above low with any number of least letters
    # behind it, and these are endlessly many.
    if high == low + letters[0] * added:
        return added
    return None


def number_of(letters, name):
    """Return how many names are before a name."""
    number = 0
    for letter in name:
        # The digits are 1 to len(letters), without 0, so that names of
        # different lengths have different numbers.
        number = number * len(letters) + letters.index(letter) + 1
    return number


def name_at(letters, number):
    """Return the name with a number, from 0."""
    name = ""
    left = number
    while left > 0:
        left, digit = divmod(left - 1, len(letters))
        name = letters[digit] + name
    return name


def is_number(value):
    """Tell whether any value is an integer."""
    return isinstance(value, int) and not isinstance(value, bool)
