"""What all checks of forms share. Every function takes any object as its thing."""


def is_number(thing):
    """Return whether a thing is an integer; bools are ints in Python, but not here."""
    return isinstance(thing, int) and not isinstance(thing, bool)


def is_tuple_of(thing, least, most, is_part):
    """Return whether a thing is a tuple of so many parts, each of which is_part accepts."""
    # The length is looked at first: a thing may be very large.
    if not isinstance(thing, tuple) or not least <= len(thing) <= most:
        return False
    for part in thing:
        if not is_part(part):
            return False
    return True


def begins_with_word(thing):
    """Return whether a thing is a tuple that begins with a string."""
    return isinstance(thing, tuple) and len(thing) > 0 and isinstance(thing[0], str)


def have_forms(things, forms, has_form):
    """Return whether parts of a thing have the forms with these words, one for one, which has_form accepts."""
    if len(things) != len(forms):
        return False
    for thing, form in zip(things, forms):
        if not has_form(thing, form):
            return False
    return True


def is_pair(thing):
    """Return whether a thing is a tuple of two."""
    return isinstance(thing, tuple) and len(thing) == 2


def is_index(thing, many):
    """Return whether a thing is the index of one of so many."""
    return is_number(thing) and 0 <= thing < many


def are_different(things):
    """Return whether strings, or tuples of strings, are all different."""
    return len(set(things)) == len(things)


def is_same(thing, wanted):
    """Return whether a thing is just this one, made of tuples, lists, strings, integers, bools and None."""
    # In Python True is 1 and False is 0, so == alone would take one for the other.
    if isinstance(wanted, (tuple, list)):
        return isinstance(thing, (tuple, list)) and are_same(thing, wanted)
    if isinstance(wanted, bool):
        return isinstance(thing, bool) and thing == wanted
    if isinstance(wanted, int):
        return is_number(thing) and thing == wanted
    if isinstance(wanted, str):
        return isinstance(thing, str) and thing == wanted
    return thing is None


def are_same(things, wanted):
    """Return whether a tuple or list is of the same kind as another one, and its parts are the same."""
    if isinstance(things, tuple) != isinstance(wanted, tuple) or len(things) != len(wanted):
        return False
    for part, other in zip(things, wanted):
        if not is_same(part, other):
            return False
    return True
