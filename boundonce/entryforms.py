"""The forms of entries: what stands at each place of an entry of each kind."""

from boundonce.forms import begins_with_word, have_forms, is_number, is_pair
from boundonce.names import is_name, is_type_list, is_values

ENTRY_FORMS = {
    "at": ("name", "name", "number"),
    "free": ("name", "name"),
    "column": ("number", "name", "number"),
    "bare": ("number", "name"),
    "columns": ("number", "pairs"),
    "function": ("name", "name", "types", "number"),
    "unmade": ("name", "name", "types"),
    "right": ("name", "number"),
    "rule": ("name", "number", "rule"),
}


def has_entry_form(thing):
    """Return whether any object is an entry by its form."""
    if not begins_with_word(thing) or thing[0] not in ENTRY_FORMS:
        return False
    return have_forms(thing[1:], ENTRY_FORMS[thing[0]], is_part)


def is_part(thing, form):
    """Return whether any object has the form with this word."""
    if form == "name":
        return is_name(thing)
    if form == "number":
        return is_thing_number(thing)
    if form == "types":
        return is_type_list(thing)
    if form == "pairs":
        return isinstance(thing, tuple) and len(thing) > 0 and all([is_named_number(part) for part in thing])
    return thing is None or (is_pair(thing) and is_thing_number(thing[0]) and is_values(thing[1]))


def is_thing_number(thing):
    """Return whether any object may be the number of a thing: numbers begin with 0."""
    return is_number(thing) and thing >= 0


def is_named_number(thing):
    """Return whether any object is a pair of a name and a number of a thing."""
    return is_pair(thing) and is_name(thing[0]) and is_thing_number(thing[1])
