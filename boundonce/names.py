"""Names and values: the words that everything else is made of."""

from boundonce.forms import are_different, is_tuple_of

LETTERS = "abcdefghijklmnopqrstuvwxyz"
MOST_LETTERS = 8
MOST_VALUES = 8
MOST_HANDED_IN = 2
RESERVED = ("select", "distinct", "as", "from", "where", "and", "in")


def is_name(thing):
    """Return whether any object is a name."""
    return is_value(thing) and thing not in RESERVED


def is_value(thing):
    """Return whether any object is a value."""
    # The length is looked at first: a string may be very long.
    if not isinstance(thing, str) or len(thing) > MOST_LETTERS:
        return False
    return thing.isascii() and thing.isalpha() and thing.islower()


def is_values(thing):
    """Return whether any object is an ascending tuple of one to eight different values."""
    if not is_tuple_of(thing, 1, MOST_VALUES, is_value):
        return False
    return thing == tuple(sorted(thing)) and are_different(thing)


def is_type_list(thing):
    """Return whether any object is, by its form, a list of types with which a function stands."""
    return is_tuple_of(thing, 1, MOST_HANDED_IN, is_name)


def is_name_or_none(thing):
    """Return whether any object may stand where a schema or a label may be left out."""
    return thing is None or is_name(thing)


def word_at(number):
    """Return the word with a number, the shortest words first."""
    word = ""
    number += 1
    while number > 0:
        number, letter = divmod(number - 1, len(LETTERS))
        word = LETTERS[letter] + word
    return word
