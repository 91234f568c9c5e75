"""What all checks of forms share. Every function takes any object as its thing."""


def is_number(thing):
    """Return whether a thing is an integer; bools are ints in Python, but not here."""
    return isinstance(thing, int) and not isinstance(thing, bool)


def is_tuple_of(thing, least, most, is_part):
    """Return whether a thing is a tuple of so many parts, each of which is_part accepts."""
    # The length is looked at first: a thing may be very large.
    if not isinstance(thing, tuple) or not least <= len(thing) <= most:
        return False
    return all([is_part(part) for part in thing])


def is_pair(thing):
    """Return whether a thing is a tuple of two."""
    return isinstance(thing, tuple) and len(thing) == 2


def are_different(things):
    """Return whether strings, or tuples of strings, are all different."""
    return len(set(things)) == len(things)
