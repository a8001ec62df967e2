"""Sessions: a store and an asked name, with runs that can be taken back."""

from undername.errors import NoText
from undername.parts import check_same
from undername.runs import run
from undername.stores import Store
from undername.texts import is_text


class Session:
    """Keeps a store that programs change, and the name that they are run for."""

    def __init__(self, letters, pairs=()):
        # No store that is kept here is ever changed: each run makes a new one.
        self.store = Store(letters, pairs)
        self.letters = letters
        self.asked = ""
        # The stores ahead of the runs that can be taken back.
        self.earlier = ()

    @property
    def name(self):
        return self.asked

    @name.setter
    def name(self, value):
        self.ask(value)

    def ask(self, name):
        """Set the asked name."""
        if not is_text(self.letters, name):
            raise NoText(name)
        self.asked = name

    def copied(self):
        """Return a copy of the store."""
        return self.store.copied()

    def do(self, program):
        """Run a program for the asked name on the store; return the answers."""
        check_same(self.letters, program.letters)
        outcome = run(program, self.asked, self.store)
        self.earlier = (*self.earlier, self.store)
        self.store = outcome.store
        return outcome.answers

    def undo(self):
        """Take back the last run that was not taken back; return whether there was one."""
        if not self.earlier:
            return False
        self.store = self.earlier[-1]
        self.earlier = self.earlier[:-1]
        return True

    def __len__(self):
        return len(self.earlier)

    def trial(self):
        """Return a context manager behind which the session is as before."""
        return SessionTrial(self)

    def within(self, work):
        """Return what some work on the session returns, and leave the session as before."""
        with self.trial() as session:
            return work(session)

    def tried(self, programs):
        """Return the store to which some programs lead, and leave the session as before."""
        with self.trial() as session:
            for program in programs:
                session.do(program)
            return session.copied()


class SessionTrial:
    """A block behind which a session is as it was."""

    def __init__(self, session):
        self.session = session
        self.store = None
        self.asked = ""
        self.earlier = ()

    def __enter__(self):
        self.store = self.session.store
        self.asked = self.session.asked
        self.earlier = self.session.earlier
        return self.session

    def __exit__(self, kind, value, trace):
        self.session.store = self.store
        self.session.asked = self.asked
        self.session.earlier = self.earlier
