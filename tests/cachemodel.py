"""A cache kept in another way, to compare with: what was kept is a list of notes, and all else is looked for anew."""

import copy

from boundonce.deeds import after_deed
from boundonce.errors import BoundError
from boundonce.leaning import lean_plan
from boundonce.plans import plan_of
from boundonce.watch import holds, watch_of
from tests import checking, oracles, slow, worlds


class Refused(Exception):
    """A call is refused: the name of the error."""


def need(fine, word):
    if not fine:
        raise Refused(word)


class Note:
    """A plan that is kept, for (statement, path, role), by a session that had begun or by None."""

    def __init__(self, place, catalog, owner):
        binding, refused = slow.bound_or_refusal(catalog, *place)
        need(refused is None, refused and refused[0])
        plan = plan_of(catalog, binding)
        self.place, self.owner, self.fresh = place, owner, plan
        self.entries = watch_of(catalog, *place)
        self.lean = lean_plan(catalog, plan)
        self.leg = checking.leg_left(catalog, plan, self.lean)

    def bars(self, catalog):
        """Return all that does not hold in a catalog."""
        return [entry for entry in self.entries if not holds(catalog, entry)] + [pair for pair in self.leg if pair not in worlds.facts_in(catalog)]


class Model:
    """The state of a cache as a dict; copying it is copying that."""

    def __init__(self, catalog):
        self.state = {"shared": catalog, "open": {}, "given": [], "begun": None, "notes": [], "anew": 0, "again": 0}

    def copy(self):
        other = Model(None)
        other.state = {word: part.copy() if isinstance(part, (dict, list)) else part for word, part in self.state.items()}
        other.state["notes"] = [copy.copy(note) for note in self.state["notes"]]
        return other

    def catalog_for(self, name):
        self.need_session(name)
        begun = self.state["begun"]
        return begun[1] if begun and begun[0] == name else self.state["shared"]

    def need_session(self, name):
        need(isinstance(name, str) and name in self.state["open"], "UnknownName")

    def do_enter(self, name, path, role):
        need(oracles.matches("name", name), "InvalidName")
        need(name not in self.state["given"], "DuplicateName")
        need(oracles.path_fits(path), "InvalidPath")
        need(oracles.matches("name", role), "InvalidName")
        self.state["given"].append(name)
        self.state["open"][name] = (path, role)

    def do_leave(self, name):
        self.need_session(name)
        if self.state["begun"] and self.state["begun"][0] == name:
            self.do_revert(name)
        del self.state["open"][name]

    def do_begin(self, name):
        self.need_session(name)
        need(not self.state["begun"], "Busy")
        self.state["begun"] = (name, self.state["shared"])

    def do_commit(self, name):
        self.need_begun(name)
        self.state["shared"] = self.state["begun"][1]
        self.state["begun"] = None
        for note in self.state["notes"]:
            note.owner = None
        return self.forget()

    def do_revert(self, name):
        self.need_begun(name)
        self.state["shared"] = self.state["shared"].numbered_from(self.state["begun"][1].next_number)
        self.state["begun"] = None
        self.state["notes"] = [note for note in self.state["notes"] if note.owner is None]

    def need_begun(self, name):
        self.need_session(name)
        need(self.state["begun"] and self.state["begun"][0] == name, "NotBegun")

    def do_perform(self, name, deed):
        self.need_session(name)
        begun = self.state["begun"]
        need(not begun or begun[0] == name, "Busy")
        try:
            behind = after_deed(self.catalog_for(name), deed)
        except BoundError as error:
            raise Refused(type(error).__name__) from error
        if begun:
            self.state["begun"] = (name, behind)
            return ()
        self.state["shared"] = behind
        return self.forget()

    def forget(self):
        gone = [note for note in self.state["notes"] if note.bars(self.state["shared"])]
        self.state["notes"] = [note for note in self.state["notes"] if note not in gone]
        return tuple([note.place for note in gone])

    def notes_for(self, name, statement):
        self.need_session(name)
        need(oracles.statement_fits(statement), "InvalidStatement")
        place = (statement, *self.state["open"][name])
        return [note for note in self.state["notes"] if note.place == place and note.owner in (None, name)]

    def do_ask(self, name, statement):
        catalog = self.catalog_for(name)
        for note in self.notes_for(name, statement):
            if not note.bars(catalog):
                self.state["again"] += 1
                return note.lean
        begun = self.state["begun"]
        note = Note((statement, *self.state["open"][name]), catalog, name if begun and begun[0] == name else None)
        self.state["anew"] += 1
        self.state["notes"].append(note)
        return note.lean

    def barred(self, name, statement):
        notes = self.notes_for(name, statement)
        return [(note.bars(self.catalog_for(name)) + [None])[0] for note in notes]

    def told(self):
        """Return all that the properties of a cache tell."""
        kept = [(*note.place, note.lean) for note in self.state["notes"] if note.owner is None]
        return self.state["shared"], self.state["shared"].next_number, sorted(self.state["open"]), self.state["anew"], self.state["again"], kept


def told_by(cache):
    """Return the same of a cache."""
    return cache.shared, cache.shared.next_number, cache.sessions, cache.bound_anew, cache.used_again, cache.plans_kept
