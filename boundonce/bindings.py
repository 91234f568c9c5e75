"""Bindings of statements, and what refuses a statement."""

from boundonce.binder import Binder, bound_or_none
from boundonce.errors import (
    Ambiguous,
    InvalidName,
    InvalidPath,
    InvalidStatement,
    Mismatch,
    NoRight,
    OnCall,
    Ring,
    Unknown,
)
from boundonce.forms import is_same
from boundonce.names import is_name
from boundonce.statements import is_path, is_statement


def binding_of(catalog, statement, path, role):
    """Return the binding of a statement."""
    need_forms(statement, path, role)
    return Binder(catalog, role).bind(statement, path)[0]


def is_binding(catalog, statement, path, role, thing):
    """Return whether any object is the binding of a statement; False if the statement is refused."""
    need_forms(statement, path, role)
    binding = bound_or_none(catalog, statement, path, role)
    return binding is not None and is_same(thing, binding)


def refusal(catalog, statement, path, role):
    """Return None if a statement binds, otherwise by which word and where it is refused."""
    need_forms(statement, path, role)
    binder = Binder(catalog, role)
    word = refusing_word(binder, statement, path)
    if word is None:
        return None
    return (word, tuple(binder.opening), binder.part, binder.index)


def refusing_word(binder, statement, path):
    """Return the name of the error that refuses a statement, or None if it binds."""
    try:
        binder.bind(statement, path)
    except Unknown:
        return "Unknown"
    except NoRight:
        return "NoRight"
    except Ring:
        return "Ring"
    except Ambiguous:
        return "Ambiguous"
    except OnCall:
        return "OnCall"
    except Mismatch:
        return "Mismatch"
    return None


def need_statement(thing):
    """Refuse any object that is no statement."""
    if not is_statement(thing):
        raise InvalidStatement("this is no statement")


def need_path(thing):
    """Refuse any object that is no path."""
    if not is_path(thing):
        raise InvalidPath("this is no path")


def need_name(thing):
    """Refuse any object that is no name."""
    if not is_name(thing):
        raise InvalidName("this is no name")


def need_forms(statement, path, role):
    """Refuse any objects that are no statement, path and role."""
    need_statement(statement)
    need_path(path)
    need_name(role)
