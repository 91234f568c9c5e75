"""Legs and ends: by which declared facts two plans are alike, and without which they are not."""

from boundonce.forms import is_same
from boundonce.legsearch import LegSearch


def legs_of(catalog, one, two):
    """Return the ascending list of all legs of two plans."""
    search = LegSearch(catalog, one, two)
    return search.listed(search.legs_and_ends()[0])


def ends_of(catalog, one, two):
    """Return the ascending list of all ends of two plans."""
    search = LegSearch(catalog, one, two)
    return search.listed(search.legs_and_ends()[1])


def are_legs(catalog, one, two, thing):
    """Return whether any object is the list of all legs of two plans."""
    return is_same(thing, legs_of(catalog, one, two))


def are_ends(catalog, one, two, thing):
    """Return whether any object is the list of all ends of two plans."""
    return is_same(thing, ends_of(catalog, one, two))


def one_leg(catalog, one, two):
    """Return the leg that is left when facts are left out, the last ones first, or None if the plans are not alike."""
    search = LegSearch(catalog, one, two)
    if not search.alike_by(search.all_marks):
        return None
    return search.facts_in(search.leg_within(search.all_marks))
