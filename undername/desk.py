"""Desks: commands as texts over a session."""

from undername.alike import least_parting
from undername.errors import InvalidCommand
from undername.made import EMPTY
from undername.programs import Program
from undername.sessions import Session
from undername.zones import Zone, missed

BETWEEN = " ; "
COLON = ":"
NONE = "none"
WITHOUT_WORDS = ("undo", "show")
WITH_A_WORD = ("letters", "name")
WITH_A_TEXT = ("do", "zone", "inside", "keep", "against")


class Desk:
    """Does commands; keeps a session and a program."""

    def __init__(self):
        self.session = None
        self.kept = None

    def __len__(self):
        if self.session is None:
            return 0
        return len(self.session)

    def say(self, command):
        """Do a command and return a text."""
        words = _words_of(command)
        word = words[0]
        if word == "letters":
            self.session = Session(words[1])
            self.kept = None
            return "ready"
        if self.session is None or (word == "against" and self.kept is None):
            raise InvalidCommand()
        if word == "keep":
            self.kept = _program(self.session, words)
            return f"kept {len(self.kept)}"
        if word == "against":
            return _against(self.kept, _program(self.session, words))
        return _said(self.session, words)


def _words_of(command):
    """Return the words of a command; raise InvalidCommand if it has none of the forms."""
    if not isinstance(command, str) or "\n" in command:
        raise InvalidCommand()
    words = command.split(" ")
    if "" in words or not _has_form(words):
        raise InvalidCommand()
    return words


def _has_form(words):
    word = words[0]
    if word in WITHOUT_WORDS:
        return len(words) == 1
    if word in WITH_A_WORD:
        return len(words) == 2
    if word == "inside":
        return words.count(COLON) == 1 and words[1] != COLON and words[-1] != COLON
    return word in WITH_A_TEXT and len(words) > 1


def _said(session, words):
    """Do a command of a session and return its text."""
    word = words[0]
    if word == "name":
        session.ask("" if words[1] == EMPTY else words[1])
        return "named"
    if word == "do":
        answers = session.do(_program(session, words))
        return BETWEEN.join([_answer_text(answer) for answer in answers]) if answers else "done"
    if word == "undo":
        return "undone" if session.undo() else "nothing"
    if word == "show":
        return _pairs_text(session.copied().pairs())
    if word == "zone":
        zone = Zone.read(session.letters, _joined(words[1:]))
        return _stretches_text(zone(session.name))
    return _inside(session.letters, words)


def _joined(words):
    return " ".join(words)


def _program(session, words):
    """Return the program of a command."""
    return Program.read(session.letters, _joined(words[1:]).replace(BETWEEN, "\n"))


def _inside(letters, words):
    at = words.index(COLON)
    inner = Zone.read(letters, _joined(words[1:at]))
    outer = Zone.read(letters, _joined(words[at + 1:]))
    found = missed(inner, outer)
    if found is None:
        return "always"
    name, key = found
    return f"{_text(name)} {_text(key)}"


def _against(kept, program):
    found = least_parting(kept, program)
    if found is None:
        return "alike"
    name, store = found
    return f"{_text(name)} : {_pairs_text(store.pairs())}"


def _text(text):
    return text or EMPTY


def _pair_text(pair):
    key, value = pair
    return f"{_text(key)}={value}"


def _pairs_text(pairs):
    return _joined([_pair_text(pair) for pair in pairs]) if pairs else NONE


def _stretches_text(stretches):
    texts = [f"{_text(low)}..{_end_text(high)}" for low, high in stretches]
    return _joined(texts) if texts else NONE


def _end_text(high):
    return "" if high is None else high


def _answer_text(answer):
    word, told = answer
    if told is None:
        return NONE
    if word in ("list", "page"):
        return _pairs_text(told)
    return _pair_text(told) if word == "last" else str(told)
