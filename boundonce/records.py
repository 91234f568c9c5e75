"""Records of what was done to caches, and caches behind what is recorded."""

from boundonce.cachecalls import called, is_call
from boundonce.caches import Cache
from boundonce.errors import BoundError
from boundonce.forms import begins_with_word, is_same


class Recorder(Cache):
    """A cache that records its calls that raised no error."""

    def __init__(self, catalog):
        super().__init__(catalog)
        self._recorded = []

    @property
    def recorded(self):
        """The list of tuples (word, arguments, result) of the calls."""
        return list(self._recorded)

    def enter(self, name, path, role):
        """Open a session."""
        return self.note("enter", (name, path, role), super().enter(name, path, role))

    def leave(self, name):
        """Close a session, and take back what it has begun."""
        return self.note("leave", (name,), super().leave(name))

    def perform(self, name, deed):
        """Do a deed, and return for what the plans were kept that are forgotten by it."""
        return self.note("perform", (name, deed), super().perform(name, deed))

    def begin(self, name):
        """Let only this session see what it does from now on."""
        return self.note("begin", (name,), super().begin(name))

    def commit(self, name):
        """Let all see what a session has done since it began, and return what perform does."""
        return self.note("commit", (name,), super().commit(name))

    def revert(self, name):
        """Take away what a session has done since it began."""
        return self.note("revert", (name,), super().revert(name))

    def ask(self, name, statement):
        """Return the lean plan of a statement for a session."""
        return self.note("ask", (name, statement), super().ask(name, statement))

    def copy(self):
        """Return an independent recorder in the same state."""
        other = Recorder(self.shared)
        self.copy_to(other)
        other._recorded = list(self._recorded)
        return other

    def note(self, word, arguments, result):
        """Record a call, and return its result."""
        self._recorded.append((word, arguments, result))
        return result


def is_record(catalog, thing):
    """Return whether any object is the record of some calls of a new recorder of a catalog."""
    if not isinstance(thing, list):
        return False
    recorder = Recorder(catalog)
    for row in thing:
        if not repeats(recorder, row):
            return False
    return True


def repeats(recorder, thing):
    """Do a call, any object, as it is recorded; return whether this is just what is recorded then."""
    if not begins_with_word(thing) or len(thing) != 3:
        return False
    word, arguments, result = thing
    if not is_call(word, arguments):
        return False
    try:
        return is_same(result, called(recorder, word, arguments))
    except BoundError:
        return False


def replayed(catalog, record):
    """Return a recorder behind the calls of a record."""
    recorder = Recorder(catalog)
    for word, arguments, _ in record:
        called(recorder, word, arguments)
    return recorder
