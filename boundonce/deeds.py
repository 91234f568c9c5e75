"""Deeds: what is done to a catalog, and the catalog behind it."""

from boundonce.changes import change
from boundonce.deedforms import has_deed_form
from boundonce.errors import InvalidDeed


def is_deed(thing):
    """Return whether any object is a deed by its form; whether things are there is not looked at."""
    return has_deed_form(thing)


def after_deed(catalog, deed):
    """Return the catalog behind a deed."""
    if not is_deed(deed):
        raise InvalidDeed("this is no deed")
    holding = catalog.copied_holding()
    change(catalog, holding, deed)
    return catalog.with_holding(holding)


def after_deeds(catalog, deeds):
    """Return the catalog behind a list of deeds, done one after another."""
    for deed in deeds:
        catalog = after_deed(catalog, deed)
    return catalog
