"""Which function a call means, by the types of what is handed in.

The places at which a function casts are told as an integer, one bit a place.
"""

from boundonce.errors import Ambiguous, Unknown
from boundonce.finding import callable_functions


def fits(catalog, number, given):
    """Return whether a function fits if things of these types, None for a value, are handed in."""
    return places_cast(catalog, types_of(catalog, number), given) is not None


def beats(catalog, one, other, given):
    """Return whether one of two functions that fit beats the other one."""
    ones = places_cast(catalog, types_of(catalog, one), given)
    others = places_cast(catalog, types_of(catalog, other), given)
    return are_fewer(ones, others)


def best_function(catalog, path, schema, name, given):
    """Return the number of the best function of a call."""
    fitting = []
    for types, number in callable_functions(catalog, path, schema, name, len(given)).items():
        places = places_cast(catalog, types, given)
        if places is not None:
            fitting.append((places, number))
    if not fitting:
        raise Unknown("no function fits the call")
    # What casts at some of the places at which all others do is the least of these integers.
    fewest, best = min(fitting)
    for places, number in fitting:
        if number != best and not are_fewer(fewest, places):
            raise Ambiguous("none of the functions that fit is the best")
    return best


def places_cast(catalog, types, given):
    """Return at which places a function with a list of types casts what is handed in, or None if it does not fit."""
    if len(types) != len(given):
        return None
    places = 0
    bit = 1
    for handed, asked in zip(given, types):
        if handed is not None and handed != asked:
            if not catalog.is_cast(handed, asked):
                return None
            places = places + bit
        bit = bit + bit
    return places


def are_fewer(ones, others):
    """Return whether some places are all among other ones, and not all of these."""
    return ones != others and ones & others == ones


def types_of(catalog, number):
    """Return the list of types of a function."""
    return catalog.thing_of(number)[3]


def fitting_lists(catalog, given):
    """Return the lists of types with which a function fits if things of some types are handed in."""
    lists = [()]
    for handed in given:
        asked = catalog.types if handed is None else catalog.asked_for(handed)
        lists = [types + (one,) for types in lists for one in asked]
    return lists
