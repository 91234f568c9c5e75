"""Caches: plans that are kept for sessions, and used again while what they stand on holds."""

from boundonce.bindings import need_name, need_path, need_statement
from boundonce.deeds import after_deed
from boundonce.errors import Busy, DuplicateName, NotBegun, UnknownName
from boundonce.keeping import Keeping


class Cache:
    """Sessions over one catalog, and the plans that are kept for them.

    At most one session has begun, and then has a catalog of its own. What is
    kept stands in a list of pairs (name, keeping): the name of the session
    that has begun if only it may use the plan, otherwise None.
    """

    def __init__(self, catalog):
        self._shared = catalog
        self._sessions = {}
        self._given = {}
        self._begun = None
        self._own = None
        self._kept = []
        self._bound_anew = 0
        self._used_again = 0

    @property
    def shared(self):
        """The catalog as all see it."""
        return self._shared

    @property
    def sessions(self):
        """The names of the sessions, ascending."""
        return sorted(self._sessions)

    @property
    def bound_anew(self):
        """How often ask bound a statement that was not refused."""
        return self._bound_anew

    @property
    def used_again(self):
        """How often ask used a kept plan."""
        return self._used_again

    @property
    def plans_kept(self):
        """The list of tuples (statement, path, role, plan) of the plans that all may use, as they were kept."""
        return [(one.statement, one.path, one.role, one.plan) for name, one in self._kept if name is None]

    def enter(self, name, path, role):
        """Open a session."""
        need_name(name)
        if name in self._given:
            raise DuplicateName("a session has or had this name")
        need_path(path)
        need_name(role)
        self._given[name] = True
        self._sessions[name] = (path, role)

    def leave(self, name):
        """Close a session, and take back what it has begun."""
        self.need_session(name)
        if self._begun == name:
            self.take_back()
        del self._sessions[name]

    def perform(self, name, deed):
        """Do a deed, and return for what the plans were kept that are forgotten by it."""
        self.need_session(name)
        if self._begun is not None and self._begun != name:
            raise Busy("another session has begun")
        behind = after_deed(self.catalog_for(name), deed)
        if self._begun is not None:
            self._own = behind
            return ()
        self._shared = behind
        return self.forget()

    def begin(self, name):
        """Let only this session see what it does from now on."""
        self.need_session(name)
        if self._begun is not None:
            raise Busy("a session has begun")
        self._begun = name
        self._own = self._shared

    def commit(self, name):
        """Let all see what a session has done since it began, and return what perform does."""
        self.need_begun(name)
        self._shared = self._own
        self._begun = None
        self._kept = [(None, one) for _, one in self._kept]
        return self.forget()

    def revert(self, name):
        """Take away what a session has done since it began."""
        self.need_begun(name)
        self.take_back()

    def ask(self, name, statement):
        """Return the lean plan of a statement for a session."""
        usable = self.usable_by(name, statement)
        catalog = self.catalog_for(name)
        for one in usable:
            if one.bar_in(catalog) is None:
                self._used_again += 1
                return one.plan
        path, role = self._sessions[name]
        fresh = Keeping(catalog, statement, path, role)
        self._bound_anew += 1
        self._kept.append((self._begun if self._begun == name else None, fresh))
        return fresh.plan

    def barred(self, name, statement):
        """Return the list of what bars the plans that a session may use for a statement, None for each that it uses."""
        usable = self.usable_by(name, statement)
        catalog = self.catalog_for(name)
        return [one.bar_in(catalog) for one in usable]

    def catalog_for(self, name):
        """Return the catalog that a session sees."""
        self.need_session(name)
        return self._own if self._begun == name else self._shared

    def path_and_role_of(self, name):
        """Return the path and the role of a session."""
        self.need_session(name)
        return self._sessions[name]

    def copy(self):
        """Return an independent cache in the same state."""
        other = Cache(self._shared)
        self.copy_to(other)
        return other

    def copy_to(self, other):
        """Bring a new cache over the same catalog into the same state."""
        other._sessions = dict(self._sessions)
        other._given = dict(self._given)
        other._begun = self._begun
        other._own = self._own
        other._kept = list(self._kept)
        other._bound_anew = self._bound_anew
        other._used_again = self._used_again

    def need_session(self, name):
        """Refuse any object that is not the name of a session."""
        if not isinstance(name, str) or name not in self._sessions:
            raise UnknownName("no session has this name")

    def need_begun(self, name):
        """Refuse any object that is not the name of the session that has begun."""
        self.need_session(name)
        if self._begun != name:
            raise NotBegun("the session has not begun")

    def usable_by(self, name, statement):
        """Return the list of what is kept that a session may use for a statement, as it was kept."""
        self.need_session(name)
        need_statement(statement)
        path, role = self._sessions[name]
        return [one for owner, one in self._kept if owner in (None, name) and one.is_for(statement, path, role)]

    def take_back(self):
        """Take away what was done since a session began, and forget what it keeps; numbers are not given again."""
        self._shared = self._shared.numbered_from(self._own.next_number)
        self._begun = None
        self._kept = [(owner, one) for owner, one in self._kept if owner is None]

    def forget(self):
        """Forget all plans that do not stand any more, and return the tuple of what they were kept for."""
        standing, forgotten = [], []
        for owner, one in self._kept:
            if one.bar_in(self._shared) is None:
                standing.append((owner, one))
            else:
                forgotten.append((one.statement, one.path, one.role))
        self._kept = standing
        return tuple(forgotten)
