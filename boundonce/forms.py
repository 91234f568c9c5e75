"""What all checks of forms share. Every function takes any object as its thing."""


def is_number(thing):
    """Return whether a thing is an integer; bools are ints in Python, but not here."""
    return isinstance(thing, int) and not isinstance(thing, bool)


def is_tuple_of(thing, least, most, is_part):
    """Return whether a thing is a tuple of so many parts, each of which is_part accepts."""
    # The length is looked at first: a thing may be very large.
    if not isinstance(thing, tuple) or not least <= len(thing) <= most:
        return False
    return all([is_part(part) for part in thing])


def is_pair(thing):
    """Return whether a thing is a tuple of two."""
    return isinstance(thing, tuple) and len(thing) == 2


def are_different(things):
    """Return whether strings, or tuples of strings, are all different."""
    return len(set(things)) == len(things)


def is_same(thing, wanted):
    """Return whether a thing is just this one, made of tuples, strings, integers, bools and None."""
    # In Python True is 1 and False is 0, so == alone would take one for the other.
    if isinstance(wanted, tuple):
        if not isinstance(thing, tuple) or len(thing) != len(wanted):
            return False
        for part, other in zip(thing, wanted):
            if not is_same(part, other):
                return False
        return True
    if isinstance(wanted, bool):
        return isinstance(thing, bool) and thing == wanted
    if isinstance(wanted, int):
        return is_number(thing) and thing == wanted
    if isinstance(wanted, str):
        return isinstance(thing, str) and thing == wanted
    return thing is None
