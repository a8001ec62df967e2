"""Tracks: how a name runs along an endless word, with finitely many places.

A track is a tuple (word, far, turn): the places are the numbers of letters that
a name shares with the endless word; behind the place `far` they return with
each `turn` letters.
"""

from undername.words import root


def fixed_size(made):
    """Return the number of fixed letters."""
    return len(made) - made.marks


def most_fixed(one, other):
    """Return the greater number of fixed letters of two made texts."""
    return max(int(fixed_size(one)), int(fixed_size(other)))


def track_of(word, far):
    """Return the track of a word."""
    return word, far, len(root(word)[0])


def places_of(track):
    """Return the number of places."""
    _, far, turn = track
    return far + turn


def letter_at(track, place):
    """Return the letter with which a name goes on along the word."""
    word = track[0]
    return word[place % len(word)]


def place_behind(track, place):
    """Return the place one letter further."""
    _, far, turn = track
    return place + 1 if place + 1 < far + turn else far


def name_along(track, size):
    """Return the beginning of the endless word with so many letters."""
    word = track[0]
    return (word * (size // len(word) + 1))[:size]
