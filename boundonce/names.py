"""Names and values: the words that everything else is made of."""

from boundonce.forms import is_tuple_of

LETTERS = "abcdefghijklmnopqrstuvwxyz"
MOST_LETTERS = 8
MOST_VALUES = 8
MOST_HANDED_IN = 2
RESERVED = {"select": True, "distinct": True, "as": True, "from": True, "where": True, "and": True, "in": True}


def is_name(thing):
    """Return whether any object is a name."""
    # Written out, though is_value says most of it: nothing is asked as often as this.
    if not isinstance(thing, str) or len(thing) > MOST_LETTERS:
        return False
    return thing.isascii() and thing.isalpha() and thing.islower() and thing not in RESERVED


def is_value(thing):
    """Return whether any object is a value."""
    # The length is looked at first: a string may be very long.
    if not isinstance(thing, str) or len(thing) > MOST_LETTERS:
        return False
    return thing.isascii() and thing.isalpha() and thing.islower()


def is_values(thing):
    """Return whether any object is an ascending tuple of one to eight different values."""
    return is_tuple_of(thing, 1, MOST_VALUES, is_value) and are_ascending(thing)


def are_ascending(values):
    """Return whether values ascend and are all different."""
    last = ""
    for value in values:
        if value <= last:
            return False
        last = value
    return True


def is_type_list(thing):
    """Return whether any object is, by its form, a list of types with which a function stands."""
    return is_tuple_of(thing, 1, MOST_HANDED_IN, is_name)


def is_name_or_none(thing):
    """Return whether any object may stand where a schema or a label may be left out."""
    return thing is None or is_name(thing)


def word_at(number):
    """Return the word with a number, the shortest words first."""
    word = ""
    number += 1
    while number > 0:
        number, letter = divmod(number - 1, len(LETTERS))
        word = LETTERS[letter] + word
    return word
